"""Short words for programs, and for running them in a plain world."""

from membrane.plain import Plain
from membrane.programs import check_block

NONE = ("none",)
REVOKER = ("const", ("revoker",))
NOTHING = ("const", NONE)
TRUE = ("const", ("bool", True))
FALSE = ("const", ("bool", False))
ENOUGH = 100000
DONE = ("over", True, NONE)
LONG = ("long",)


def num(n):
    return ("const", ("int", n))


def words(s):
    return ("const", ("text", s))


def name(x):
    return ("name", x)


def plus(a, b):
    return ("bin", "+", a, b)


def func(parameters, *statements):
    return ("func", parameters, statements)


def giving(e):
    """A function without parameters that returns what e gives."""
    return func((), back(e))


def thing(parent=(), **pairs):
    """An object."""
    return ("object", tuple(pairs.items()), parent)


def less_one(x):
    """One less than the variable."""
    return ("bin", "-", name(x), num(1))


def get(e, x):
    return ("get", e, x)


def call(f, *args):
    return ("call", f, args)


def send(e, x, *args):
    return ("send", e, x, args)


def let(x, e):
    return ("let", x, e)


def put(o, x, e):
    return ("put", o, x, e)


def ask(o, x, getter=NOTHING, setter=NOTHING):
    return ("ask", o, x, getter, setter)


def back(e):
    return ("return", e)


def do(e):
    return ("do", e)


def show(e):
    return ("print", e)


def revoking():
    return do(call(REVOKER))


def attempt(*statements):
    """Runs the statements; what is raised is printed behind an exclamation mark."""
    return ("try", statements, "e", (show(plus(words("!"), name("e"))),))


# A function that prints its argument and returns it: it shows what is evaluated, when and how often.
SAY = let("say", func(("v",), show(name("v")), back(name("v"))))


def said(e):
    return call(name("say"), e)


def refused(text):
    """The end of a turn in which this was refused."""
    return ("over", False, ("text", text))


def ended(value):
    return ("over", True, value)


class World:
    """A plain world that takes statements as arguments and looks whether they are blocks."""

    def __init__(self, left=(), right=()):
        self.plain = Plain(left, right)
        self.read = [0, 0]

    def turn(self, side, statements, fuel=ENOUGH):
        check_block(statements)
        return self.plain.run(side, statements, fuel)

    def left(self, *statements):
        return self.turn("left", statements)

    def right(self, *statements):
        return self.turn("right", statements)

    def made(self, side, **expressions):
        """Gives the module of the side variables and hands them over, in their order."""
        for x, e in expressions.items():
            if self.turn(side, (let(x, e),)) != DONE or not self.plain.hand(side, x):
                raise AssertionError(x)

    def variables(self, side):
        """The variables of the module of the side."""
        return dict(self.plain.heap[self.plain.modules[0 if side == "left" else 1]][1])

    def seen(self, side):
        """The lines that the side has printed since the last time."""
        at = 0 if side == "left" else 1
        told = self.plain.outs[at][self.read[at]:]
        self.read[at] += len(told)
        return told.split("\n")[:-1]
