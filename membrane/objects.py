"""Objects and functions of a heap, and the twelve operations on them."""

from membrane.values import NONE

MOST_MEMBERS = 20
DONE = ("value", ("none",))


def members_of(thing):
    """The members of an object or func, in the order in which they came."""
    if thing[0] == "func":
        return thing[4]
    return thing[1]


def parent_of(thing):
    """The parent of an object; a func has none."""
    if thing[0] == "func":
        return NONE
    return thing[2]


def values_in(operation):
    """The values that stand in an operation, in their order."""
    word = operation[0]
    if word == "get":
        return (operation[2],)
    if word == "put":
        return operation[2:]
    if word == "call":
        return (operation[1],) + operation[2]
    if word == "define":
        member = operation[2]
        return (member[1],) if member[0] == "data" else member[1:3]
    return ()


def with_values(operation, values):
    """The operation with other values, a tuple of as many as stand in it."""
    word = operation[0]
    if word == "call":
        return (word, values[0], values[1:])
    if word == "define":
        member = operation[2]
        return (word, operation[1], member[:1] + values + member[-1:])
    return operation[:2] + values


def may_grow(thing):
    """True if the object or func is open."""
    if thing[0] == "func":
        return thing[5]
    return thing[3]


def rebuilt(thing, members, growing):
    """The object or func with other members, open if growing is True."""
    if thing[0] == "func":
        return ("func", thing[1], thing[2], thing[3], members, growing)
    return ("object", members, thing[2], growing)


def member_named(thing, x):
    """The member x of an object or func itself, or None."""
    for name, member in members_of(thing):
        if name == x:
            return member
    return None


def is_fixed(member):
    """True if the member is fixed."""
    if member[0] == "data":
        return member[2]
    return member[3]


def fixed_member(member):
    """The member, but fixed."""
    if member[0] == "data":
        return ("data", member[1], True)
    return ("ask", member[1], member[2], True)


def replace_member(heap, k, x, member):
    """Puts the member in the place of the object's member x."""
    thing = heap[k]
    members = tuple([(name, member if name == x else old) for name, old in members_of(thing)])
    heap[k] = rebuilt(thing, members, may_grow(thing))


def or_parent(thing, operation, last):
    """The same operation on the parent, or the outcome last if there is no parent."""
    parent = parent_of(thing)
    if parent == NONE:
        return last
    return ("next", parent, operation, True)


# The twelve operations take the same arguments, so that one table can hold them.


def perform_get(heap, k, operation):
    _, x, receiver = operation
    thing = heap[k]
    member = member_named(thing, x)
    if member is None:
        return or_parent(thing, operation, ("raise", "no such name"))
    if member[0] == "data":
        return ("value", member[1])
    if member[1] == NONE:
        return DONE
    return ("next", member[1], ("call", receiver, ()), True)


def perform_put(heap, k, operation):
    _, x, value, receiver = operation
    thing = heap[k]
    member = member_named(thing, x)
    if member is None:
        if parent_of(thing) == NONE:
            return put_at_receiver(heap, k, operation)
        return ("next", parent_of(thing), operation, False)
    if member[0] == "ask":
        if member[2] == NONE:
            return ("raise", "no such name")
        return ("next", member[2], ("call", receiver, (value,)), False)
    if is_fixed(member):
        return ("raise", "fixed")
    return put_at_receiver(heap, k, operation)


def put_at_receiver(heap, k, operation):
    """A put that no member and no parent stands against: it defines a member of the receiver."""
    _, x, value, receiver = operation
    define = ("define", x, ("data", value, False))
    if receiver == ("ref", k):
        return perform_define(heap, k, define)
    return ("next", receiver, define, False)


def perform_has(heap, k, operation):
    thing = heap[k]
    if member_named(thing, operation[1]) is not None:
        return ("value", ("bool", True))
    return or_parent(thing, operation, ("value", ("bool", False)))


def perform_drop(heap, k, operation):
    x = operation[1]
    thing = heap[k]
    member = member_named(thing, x)
    if member is None:
        return ("raise", "no such name")
    if is_fixed(member):
        return ("raise", "fixed")
    members = tuple([pair for pair in members_of(thing) if pair[0] != x])
    heap[k] = rebuilt(thing, members, may_grow(thing))
    return DONE


def perform_look(heap, k, operation):
    member = member_named(heap[k], operation[1])
    if member is None:
        return DONE
    if is_fixed(member):
        return ("value", ("text", "fixed " + member[0]))
    return ("value", ("text", member[0]))


def perform_fix(heap, k, operation):
    x = operation[1]
    member = member_named(heap[k], x)
    if member is None:
        return ("raise", "no such name")
    replace_member(heap, k, x, fixed_member(member))
    return DONE


def perform_define(heap, k, operation):
    _, x, member = operation
    thing = heap[k]
    old = member_named(thing, x)
    if old is not None:
        if is_fixed(old):
            return ("raise", "fixed")
        replace_member(heap, k, x, member)
        return DONE
    if not may_grow(thing):
        return ("raise", "closed")
    members = members_of(thing)
    if len(members) >= MOST_MEMBERS:
        return ("raise", "too large")
    heap[k] = rebuilt(thing, members + ((x, member),), True)
    return DONE


def perform_names(heap, k, operation):
    return ("value", ("text", " ".join([name for name, _ in members_of(heap[k])])))


def perform_parent(heap, k, operation):
    return ("value", parent_of(heap[k]))


def perform_close(heap, k, operation):
    thing = heap[k]
    heap[k] = rebuilt(thing, members_of(thing), False)
    return DONE


def perform_is_open(heap, k, operation):
    return ("value", ("bool", may_grow(heap[k])))


def perform_call(heap, k, operation):
    _, receiver, args = operation
    if heap[k][0] != "func":
        return ("raise", "not a function")
    return ("enter", k, receiver, args, True)


ACTIONS = {
    "get": perform_get,
    "put": perform_put,
    "has": perform_has,
    "drop": perform_drop,
    "look": perform_look,
    "fix": perform_fix,
    "define": perform_define,
    "names": perform_names,
    "parent": perform_parent,
    "close": perform_close,
    "is_open": perform_is_open,
    "call": perform_call,
}


def perform(heap, k, operation):
    """The outcome of an operation on the object k; it changes that object at most."""
    action = ACTIONS[operation[0]]
    return action(heap, k, operation)
