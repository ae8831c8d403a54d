"""What expressions give and statements do (p3, p4), by a machine that runs them (see membrane.machine).

A node is an expression or a statement. The machine evaluates the parts of a node from the left to the right; then
the node is finished with their values.
"""

from membrane.scopes import NOWHERE, let_variable, scope_with, variable
from membrane.values import NONE, combined, kind, text_of, truth

# Frames of the machine: what is given is thrown away.
THROWN_AWAY = ("thrown away",)

# Where in a node the expressions stand that are evaluated before it is finished; of object and call see parts_of.
PARTS = {
    "const": (),
    "name": (),
    "bin": (2, 3),
    "not": (1,),
    "choice": (1,),
    "func": (),
    "get": (1,),
    "has": (1,),
    "names": (1,),
    "look": (1,),
    "parent": (1,),
    "is_open": (1,),
    "kind": (1,),
    "send": (1,),
    "let": (2,),
    "set": (2,),
    "put": (1, 3),
    "drop": (1,),
    "fix": (1,),
    "close": (1,),
    "ask": (1, 3, 4),
    "if": (1,),
    "while": (1,),
    "try": (),
    "raise": (1,),
    "return": (1,),
    "do": (1,),
    "print": (1,),
}


def parts_of(node):
    """The expressions that are evaluated before the node is finished, in their order."""
    if node[0] == "call":
        return (node[1],) + node[2]
    if node[0] == "object":
        parts = tuple([e for _, e in node[1]])
        return parts if node[2] == () else parts + (node[2],)
    return tuple([node[at] for at in PARTS[node[0]]])


# The functions that finish a node take the same arguments, so that one table can hold them: the machine, the node,
# the number of the scope in which it runs, and the values of its parts. An expression gives its value, now or when
# what it began has ended; a statement gives nothing.


def finish_const(machine, node, env, values):
    machine.give(node[1])


def finish_name(machine, node, env, values):
    x = node[1]
    k = scope_with(machine.heap, env, x)
    if k == NOWHERE:
        machine.refuse("no such name")
    else:
        machine.give(variable(machine.heap[k], x))


def finish_bin(machine, node, env, values):
    machine.settle(combined(node[1], values[0], values[1]))


def finish_not(machine, node, env, values):
    machine.give(("bool", not truth(values[0])))


def finish_choice(machine, node, env, values):
    machine.begin(node[2] if truth(values[0]) else node[3], env)


def finish_object(machine, node, env, values):
    _, pairs, parent = node
    above = NONE if parent == () else values[-1]
    if above[0] not in ("none", "ref", "far"):
        machine.refuse("wrong kind")
        return
    members = tuple([(pair[0], ("data", value, False)) for pair, value in zip(pairs, values)])
    machine.give(("ref", machine.keep(("object", members, above, True))))


def finish_func(machine, node, env, values):
    _, parameters, block = node
    machine.give(("ref", machine.keep(("func", parameters, block, env, (), True))))


def finish_get(machine, node, env, values):
    machine.operate(values[0], ("get", node[2], values[0]))


def finish_asking(machine, node, env, values):
    machine.operate(values[0], (node[0],) + node[2:])


def finish_kind(machine, node, env, values):
    machine.give(("text", kind(machine.heap, values[0])))


def finish_call(machine, node, env, values):
    machine.operate(values[0], ("call", NONE, values[1:]))


def finish_send(machine, node, env, values):
    # The function that is found becomes the second value, and the arguments the ones behind it.
    machine.wait(("apply",), env, node[3], values)
    finish_get(machine, node, env, values)


def finish_apply(machine, node, env, values):
    machine.operate(values[1], ("call", values[0], values[2:]))


def finish_let(machine, node, env, values):
    let_variable(machine.heap, env, node[1], values[0])


def finish_set(machine, node, env, values):
    x = node[1]
    k = scope_with(machine.heap, env, x)
    if k == NOWHERE:
        machine.refuse("no such name")
    else:
        let_variable(machine.heap, k, x, values[0])


def finish_put(machine, node, env, values):
    machine.doing.append(THROWN_AWAY)
    machine.operate(values[0], ("put", node[2], values[1], values[0]))


def finish_changing(machine, node, env, values):
    machine.doing.append(THROWN_AWAY)
    machine.operate(values[0], (node[0],) + node[2:])


def finish_ask(machine, node, env, values):
    machine.doing.append(THROWN_AWAY)
    machine.operate(values[0], ("define", node[2], ("ask", values[1], values[2], False)))


def finish_if(machine, node, env, values):
    machine.run_block(node[2] if truth(values[0]) else node[3], env)


def finish_while(machine, node, env, values):
    if truth(values[0]) and machine.may_begin():
        machine.begin(node, env)
        machine.run_block(node[2], env)


def finish_try(machine, node, env, values):
    _, block, x, handler = node
    machine.doing.append(("tried", x, handler, env))
    machine.run_block(block, env)


def finish_raise(machine, node, env, values):
    machine.throw(values[0])


def finish_return(machine, node, env, values):
    machine.doing.append(("returned", values[0]))


def finish_do(machine, node, env, values):
    pass


def finish_print(machine, node, env, values):
    if not machine.write(text_of(machine.heap, values[0]) + "\n"):
        machine.refuse("too large")


FINISHING = {
    "const": finish_const,
    "name": finish_name,
    "bin": finish_bin,
    "not": finish_not,
    "choice": finish_choice,
    "object": finish_object,
    "func": finish_func,
    "get": finish_get,
    "has": finish_asking,
    "names": finish_asking,
    "look": finish_asking,
    "parent": finish_asking,
    "is_open": finish_asking,
    "kind": finish_kind,
    "call": finish_call,
    "send": finish_send,
    "apply": finish_apply,
    "let": finish_let,
    "set": finish_set,
    "put": finish_put,
    "drop": finish_changing,
    "fix": finish_changing,
    "close": finish_changing,
    "ask": finish_ask,
    "if": finish_if,
    "while": finish_while,
    "try": finish_try,
    "raise": finish_raise,
    "return": finish_return,
    "do": finish_do,
    "print": finish_print,
}


def finish(machine, node, env, values):
    """Finishes a node whose parts have these values."""
    action = FINISHING[node[0]]
    action(machine, node, env, values)
