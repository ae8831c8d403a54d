"""A second reading of DOC.md: the world by functions that call themselves, without steps.

It tells what a world must do, down to the events and the heaps, for turns that end. It stands on membrane.objects and
membrane.values alone.
"""

from membrane.objects import members_of, perform
from membrane.values import combined, kind, text_of, truth

NONE = ("none",)
OTHER = {"left": "right", "right": "left"}


class Raised(Exception):
    """A program raises a value."""

    def __init__(self, value):
        self.value = value


class Returned(Exception):
    """A program returns a value."""

    def __init__(self, value):
        self.value = value


def refuse(words):
    raise Raised(("text", words))


class Party:
    """A side."""

    def __init__(self, world, name, policy):
        self.world = world
        self.name = name
        self.policy = policy
        self.heap = [("scope", (("me", NONE),), -1)]
        self.gone = []
        self.out = ""

    def new(self, thing):
        self.heap.append(thing)
        return ("ref", len(self.heap) - 1)

    # Variables.

    def holder(self, env, x):
        while env != -1:
            if x in dict(self.heap[env][1]):
                return env
            env = self.heap[env][2]
        return refuse("no such name")

    def let(self, env, x, value):
        _, variables, around = self.heap[env]
        told = dict(variables)
        told[x] = value
        self.heap[env] = ("scope", tuple(told.items()), around)

    # Crossing.

    def leave(self, value):
        """The neutral value."""
        if value[0] == "ref":
            if value[1] not in self.gone:
                self.gone.append(value[1])
            return (self.name, self.gone.index(value[1]), kind(self.heap, value))
        if value[0] == "far":
            return (OTHER[self.name], value[1], value[2])
        return value

    def arrive(self, value):
        """The value of this side for a neutral one."""
        if value[0] == self.name:
            return ("ref", self.gone[value[1]])
        if value[0] in OTHER:
            return ("far", value[1], value[2])
        return value

    # Operations.

    def operate(self, value, operation, depth):
        """What an operation gives; depth is the depth of this side."""
        used = True
        while True:
            if value[0] == "far":
                end = self.world.request(self, depth, value[1], operation)
                break
            if value == ("revoker",) and operation[0] == "call":
                self.world.revoke()
                end = NONE
                break
            if value[0] != "ref":
                refuse("not a function" if operation[0] == "call" else "not an object")
            outcome = perform(self.heap, value[1], operation)
            if outcome[0] == "value":
                end = outcome[1]
                break
            if outcome[0] == "raise":
                refuse(outcome[1])
            if outcome[0] == "enter":
                end = self.enter(outcome[1], outcome[2], outcome[3], depth)
                break
            _, value, operation, use = outcome
            used = used and use
        return end if used else NONE

    def enter(self, k, receiver, args, depth):
        _, parameters, body, around, _, _ = self.heap[k]
        if depth == 20:
            refuse("too deep")
        if len(args) != len(parameters):
            refuse("wrong number")
        variables = {"me": receiver}
        variables.update(zip(parameters, args))
        order = list(parameters) + ["me"] * ("me" not in parameters)
        env = self.new(("scope", tuple((x, variables[x]) for x in order), around))[1]
        try:
            self.run(body, env, depth + 1)
        except Returned as end:
            return end.value
        return NONE

    # Programs.

    def all_of(self, parts, env, depth):
        return tuple([self.give(e, env, depth) for e in parts])

    def give(self, e, env, depth):
        word = e[0]
        if word == "const":
            return e[1]
        if word == "name":
            return dict(self.heap[self.holder(env, e[1])][1])[e[1]]
        if word == "choice":
            return self.give(e[2] if truth(self.give(e[1], env, depth)) else e[3], env, depth)
        if word == "func":
            return self.new(("func", e[1], e[2], env, (), True))
        if word == "object":
            values = self.all_of([part for _, part in e[1]], env, depth)
            parent = NONE if e[2] == () else self.give(e[2], env, depth)
            if parent[0] not in ("none", "ref", "far"):
                refuse("wrong kind")
            members = tuple((x, ("data", value, False)) for (x, _), value in zip(e[1], values))
            return self.new(("object", members, parent, True))
        if word == "bin":
            told, result = combined(e[1], *self.all_of(e[2:], env, depth))
            return result if told == "value" else refuse(result)
        v = self.give(e[1], env, depth)
        if word == "not":
            return ("bool", not truth(v))
        if word == "kind":
            return ("text", kind(self.heap, v))
        if word == "get":
            return self.operate(v, ("get", e[2], v), depth)
        if word == "call":
            return self.operate(v, ("call", NONE, self.all_of(e[2], env, depth)), depth)
        if word == "send":
            f = self.operate(v, ("get", e[2], v), depth)
            return self.operate(f, ("call", v, self.all_of(e[3], env, depth)), depth)
        return self.operate(v, (word,) + e[2:], depth)

    def run(self, block, env, depth):
        for statement in block:
            self.do(statement, env, depth)

    def do(self, statement, env, depth):
        word = statement[0]
        if word == "try":
            try:
                self.run(statement[1], env, depth)
                return
            except Raised as end:
                self.let(env, statement[2], end.value)
            self.run(statement[3], env, depth)
            return
        if word == "while":
            while truth(self.give(statement[1], env, depth)):
                self.run(statement[2], env, depth)
            return
        if word in ("let", "set"):
            value = self.give(statement[2], env, depth)
            self.let(env if word == "let" else self.holder(env, statement[1]), statement[1], value)
            return
        v = self.give(statement[1], env, depth)
        if word == "if":
            self.run(statement[2] if truth(v) else statement[3], env, depth)
        elif word == "raise":
            raise Raised(v)
        elif word == "return":
            raise Returned(v)
        elif word == "print":
            self.write(text_of(self.heap, v) + "\n")
        elif word == "put":
            w = self.give(statement[3], env, depth)
            self.operate(v, ("put", statement[2], w, v), depth)
        elif word == "ask":
            member = ("ask",) + self.all_of(statement[3:], env, depth) + (False,)
            self.operate(v, ("define", statement[2], member), depth)
        elif word != "do":
            self.operate(v, (word,) + statement[2:], depth)

    def write(self, line):
        if len(self.out + line) > 10000:
            refuse("too large")
        self.out += line


def changed(operation, change):
    """The operation with change done to each value in it, in their order."""
    word = operation[0]
    if word in ("get", "put"):
        return operation[:2] + tuple([change(v) for v in operation[2:]])
    if word == "call":
        receiver = change(operation[1])
        return (word, receiver, tuple([change(v) for v in operation[2]]))
    if word == "define":
        member = operation[2]
        return operation[:2] + ((member[0],) + tuple([change(v) for v in member[1:-1]]) + (member[-1],),)
    return operation


def counting(policy, n):
    """The rules that count for the n-th object."""
    return [rule[2] if rule[0] == "only" else rule for rule in policy if rule[0] != "only" or rule[1] == n]


class Reading:
    """A world."""

    def __init__(self, left, right):
        self.parties = {"left": Party(self, "left", left), "right": Party(self, "right", right)}
        self.events = []
        self.revoked = False

    def turn(self, side, block):
        """The end of a turn, (ok, value)."""
        self.events.append(("turn", side))
        try:
            self.parties[side].run(block, 0, 0)
            end = (True, NONE)
        except Returned as told:
            end = (True, told.value)
        except Raised as told:
            end = (False, told.value)
        self.events.append(("end",))
        return end

    def hand(self, side, x):
        giver, taker = self.parties[side], self.parties[OTHER[side]]
        variables = dict(giver.heap[0][1])
        if self.revoked or x not in variables:
            return False
        neutral = giver.leave(variables[x])
        self.events.append(("handed", side, x, neutral))
        taker.let(0, x, taker.arrive(neutral))
        return True

    def revoke(self):
        if not self.revoked:
            self.revoked = True
            self.events.append(("revoke",))

    def request(self, asks, depth, n, operation):
        """What a request gives to the party that asks."""
        if self.revoked:
            refuse("revoked")
        owner = self.parties[OTHER[asks.name]]
        crossing = changed(operation, asks.leave)
        self.events.append(("request", asks.name, depth, n, crossing))
        rules = counting(owner.policy, n)
        word, hidden = operation[0], len(operation) > 1 and ("hide", operation[1]) in rules
        if word == "call" and ("nocall",) in rules or word == "close" and ("readonly",) in rules:
            self.deny()
        if word in ("put", "drop", "fix", "define"):
            if hidden or ("protect", operation[1]) in rules or ("readonly",) in rules:
                self.deny()
        ok = True
        if hidden and word in ("get", "has", "look"):
            ok = word != "get"
            value = {"get": ("text", "no such name"), "has": ("bool", False), "look": NONE}[word]
        elif word == "names":
            names = [x for x, _ in members_of(owner.heap[owner.gone[n]]) if ("hide", x) not in rules]
            value = ("text", " ".join(names))
        elif depth == 20:
            ok, value = False, ("text", "too deep")
        else:
            try:
                value = owner.operate(("ref", owner.gone[n]), changed(crossing, owner.arrive), depth + 1)
            except Raised as end:
                ok, value = False, end.value
        if self.revoked:
            refuse("revoked")
        neutral = owner.leave(value)
        self.events.append(("reply", ok, neutral))
        if not ok:
            raise Raised(asks.arrive(neutral))
        return asks.arrive(neutral)

    def deny(self):
        self.events.append(("denied",))
        refuse("denied")


# Traces (t1), for events that have the shapes of w3 in all but what is looked at here.


def first_wrong(trace):
    """The index of the first event that cannot stand in the trace, or None."""
    running, waits, revoked = [], [], False
    crossed = {"left": {}, "right": {}}

    def can_give(side, values):
        for v in values:
            if len(v) == 3:
                owner, n, what = v
                if what not in ("object", "function"):
                    return False
                if n == len(crossed[owner]) and owner == side:
                    crossed[owner][n] = what
                if crossed[owner].get(n) != what:
                    return False
        return True

    for at, event in enumerate(trace):
        word = event[0]
        if word == "turn":
            good = running == []
            running = [event[1]]
        elif word == "handed":
            good = running == [] and not revoked and can_give(event[1], [event[3]])
        elif word == "revoke":
            good = not revoked
            revoked = True
        elif word == "end":
            good = running != [] and (waits == [] or revoked)
            running, waits = [], []
        elif word == "request":
            _, side, depth, n, operation = event
            good = running == [side] and not revoked and 0 <= depth <= 20 and n in crossed[OTHER[side]]
            values = []
            changed(operation, values.append)
            good = good and can_give(side, values)
            waits.append(side)
            running = [OTHER[side]]
        else:
            good = waits != [] and not revoked
            good = good and (word == "denied" or can_give(running[0], [event[2]]))
            running = [waits.pop()] if waits else []
        if not good:
            return at
    return None
