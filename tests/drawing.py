"""Draws programs, policies and deeds; the same number always draws the same ones."""

import random

from membrane.plain import Plain
from membrane.programs import check_block

SIDES = ("left", "right")

# The variables that each side makes at the beginning; most of them are handed over, too, so that both have them.
OBJECTS = {"left": ("a", "b"), "right": ("e", "f")}
FUNCTIONS = {"left": ("c", "d"), "right": ("g", "h")}
ALL_OBJECTS = ("a", "b", "e", "f")
ALL_FUNCTIONS = ("c", "d", "g", "h")
OTHERS = ("s", "t", "me")
MEMBERS = ("x", "y", "z")
FUEL = 400

CONSTANTS = (
    ("none",), ("bool", True), ("bool", False), ("int", 0), ("int", 1), ("int", 7), ("int", -3),
    ("int", 2 ** 63), ("text", ""), ("text", "t"), ("text", "u" * 120),
)
EXPRESSIONS = (
    "const", "name", "bin", "not", "choice", "object", "object", "func", "get", "get", "get", "has", "names", "look",
    "parent", "is_open", "kind", "call", "call", "call", "call", "send", "send",
)
STATEMENTS = (
    "let", "let", "set", "put", "put", "put", "drop", "fix", "close", "ask", "ask", "if", "while", "raise", "return",
    "do", "do", "do", "print", "print", "print",
)


def const(v):
    return ("const", v)


class Draw:
    """What is drawn for one number; revoking is how often the membrane is revoked."""

    def __init__(self, number, revoking):
        self.random = random.Random(number)
        self.revoking = revoking

    def one_of(self, things):
        return self.random.choice(things)

    def chance(self, share):
        return self.random.random() < share

    # Expressions; room is how much may still be nested.

    def expression(self, room):
        if self.chance(self.revoking):
            return ("call", const(("revoker",)), ())
        if room <= 0:
            return ("name", self.one_of(OTHERS)) if self.chance(0.3) else const(self.one_of(CONSTANTS))
        return self.expression_of(self.one_of(EXPRESSIONS), room)

    def expression_of(self, word, room):
        if word == "const":
            return const(self.one_of(CONSTANTS))
        if word == "name":
            return self.thing(room)
        if word == "bin":
            op = self.one_of(("+", "-", "*", "<", "==", "=="))
            return ("bin", op, self.expression(room - 1), self.expression(room - 1))
        if word == "not":
            return ("not", self.expression(room - 1))
        if word == "choice":
            return ("choice", self.expression(room - 1), self.thing(room - 1), self.expression(room - 1))
        if word == "object":
            return self.object(room)
        if word == "func":
            return self.function(("p",), room)
        if word in ("get", "has", "look"):
            return (word, self.thing(room - 1), self.one_of(MEMBERS))
        if word == "call":
            return ("call", self.called(room - 1), self.arguments(room - 1))
        if word == "send":
            return ("send", self.thing(room - 1), self.one_of(MEMBERS), self.arguments(room - 1))
        return (word, self.thing(room - 1))

    def thing(self, room):
        """An expression that most often gives an object or a function."""
        if room > 0 and self.chance(0.2):
            return self.expression(room - 1)
        names = self.one_of((ALL_OBJECTS, ALL_OBJECTS, ALL_FUNCTIONS, ("p", "me"), OTHERS))
        return ("name", self.one_of(names))

    def called(self, room):
        if self.chance(0.15):
            return self.thing(room)
        return ("name", self.one_of(ALL_FUNCTIONS + ("p",)))

    def arguments(self, room):
        many = 1 if self.chance(0.9) else self.one_of((0, 2))
        return tuple([self.thing(room) if self.chance(0.7) else self.expression(room) for _ in range(many)])

    def object(self, room):
        members = self.random.sample(MEMBERS, self.random.randint(0, 3))
        parent = () if self.chance(0.4) else self.thing(0)
        return ("object", tuple([(x, self.member(room)) for x in members]), parent)

    def member(self, room):
        return self.function(("p",), room) if self.chance(0.3) else self.thing(room - 1)

    def function(self, parameters, room):
        if room < 2:
            return ("name", self.one_of(ALL_FUNCTIONS))
        return ("func", parameters, self.block(room - 1, 3) + (("return", self.expression(1)),))

    # Statements.

    def block(self, room, many):
        """A block of one to so many statements."""
        return tuple([self.guarded(room) for _ in range(self.random.randint(1, many))])

    def guarded(self, room):
        """A statement, most often with a handler around it."""
        if room > 1 and self.chance(0.6):
            handler = (("print", ("name", self.one_of(("s", "t")))),)
            return ("try", (self.statement(room - 1),), self.one_of(("s", "t")), handler)
        return self.statement(room)

    def statement(self, room):
        if self.chance(self.revoking / 2):
            return ("do", ("call", const(("revoker",)), ()))
        return self.statement_of(self.one_of(STATEMENTS), room)

    def statement_of(self, word, room):
        x = self.one_of(MEMBERS)
        if word in ("let", "set"):
            return (word, self.one_of(("s", "t")), self.expression(room - 1))
        if word == "put":
            return ("put", self.thing(0), x, self.member(room - 1))
        if word in ("drop", "fix", "close") and self.chance(0.3):
            return (word, self.thing(0)) + (() if word == "close" else (x,))
        if word == "ask":
            getter = self.function((), room - 1) if self.chance(0.7) else const(("none",))
            setter = self.function(("w",), room - 1) if self.chance(0.7) else self.thing(0)
            return ("ask", self.thing(0), x, getter, setter)
        if word == "if" and room > 1:
            no = self.block(room - 1, 2) if self.chance(0.5) else ()
            return ("if", self.expression(1), self.block(room - 1, 2), no)
        if word == "while" and room > 1:
            # Most of these loops end, by what the block does to s.
            return ("while", ("bin", "<", ("name", "s"), const(("int", 5))), self.block(room - 1, 2) + (
                ("let", "s", ("bin", "+", ("name", "s"), const(("int", 3)))),))
        if word in ("raise", "return", "print") and self.chance(0.7):
            return (word, self.expression(room - 1))
        return ("do", self.expression_of(self.one_of(("call", "call", "send", "get")), room))

    # Policies and deeds.

    def rule(self):
        word = self.one_of(("hide", "protect", "readonly", "nocall"))
        return (word, self.one_of(MEMBERS)) if word in ("hide", "protect") else (word,)

    def policy(self):
        """A policy of no or a few rules."""
        rules = []
        for _ in range(self.one_of((0, 0, 1, 2, 3))):
            rule = self.rule()
            rules.append(("only", self.random.randint(0, 6), rule) if self.chance(0.8) else rule)
        return tuple(rules)

    def start(self, side):
        """A block that gives the module of the side its variables."""
        made = [("let", "s", const(("int", 0))), ("let", "t", const(("text", "t"))), ("let", "p", ("object", (), ()))]
        names = list(OBJECTS[side] + FUNCTIONS[side])
        for x in FUNCTIONS[side]:
            made.append(("let", x, self.function(("p",), 3)))
        for x in OBJECTS[side]:
            members = [(y, self.own_member(side)) for y in self.random.sample(MEMBERS, self.random.randint(1, 3))]
            made.append(("let", x, ("object", tuple(members), ())))
        self.random.shuffle(names)
        return tuple(made), names

    def own_member(self, side):
        """A member of one of the first objects, of what is there already."""
        if self.chance(0.4):
            return ("name", self.one_of(FUNCTIONS[side]))
        return self.function(("p",), 3) if self.chance(0.5) else const(self.one_of(CONSTANTS))

    def deed(self):
        """A deed: ("run", side, block), ("hand", side, x) or ("revoke",)."""
        if self.chance(self.revoking):
            return ("revoke",)
        side = self.one_of(SIDES)
        if self.chance(0.25):
            return ("hand", side, self.one_of(ALL_OBJECTS + ALL_FUNCTIONS + OTHERS))
        return ("run", side, self.block(4, 6))


def drawn(number, many=8, revoking=0.01):
    """Two policies and a list of deeds, of which each turn is over in the plain world."""
    draw = Draw(number, revoking)
    policies = (draw.policy(), draw.policy())
    plain = Plain(*policies)
    wanted, handed = [], []
    for side in SIDES:
        block, names = draw.start(side)
        wanted.append(("run", side, block))
        handed += [("hand", side, x) for x in names if draw.chance(0.9)]
    draw.random.shuffle(handed)
    wanted += handed + [draw.deed() for _ in range(many)]
    deeds = []
    for deed in wanted:
        if deed[0] == "run":
            check_block(deed[2])
            if plain.run(deed[1], deed[2], FUEL) == ("long",):
                # What was done till then would have to be done by the others, too.
                break
        elif deed[0] == "hand":
            plain.hand(deed[1], deed[2])
        else:
            plain.revoke()
        deeds.append(deed)
    return policies, deeds
