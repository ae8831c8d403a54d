"""Short words for programs, and for running them in a plain world."""

from membrane import world
from membrane.plain import Plain
from membrane.programs import check_block
from membrane.traces import check_trace
from membrane.values import kind, text_of

NONE = ("none",)
REVOKER = ("const", ("revoker",))
NOTHING = ("const", NONE)
TRUE = ("const", ("bool", True))
FALSE = ("const", ("bool", False))
ENOUGH = 100000
DONE = ("over", True, NONE)
LONG = ("long",)


def num(n):
    return ("const", ("int", n))


def words(s):
    return ("const", ("text", s))


def name(x):
    return ("name", x)


def plus(a, b):
    return ("bin", "+", a, b)


def func(parameters, *statements):
    return ("func", parameters, statements)


def giving(e):
    """A function without parameters that returns what e gives."""
    return func((), back(e))


def thing(parent=(), **pairs):
    """An object."""
    return ("object", tuple(pairs.items()), parent)


def less_one(x):
    """One less than the variable."""
    return ("bin", "-", name(x), num(1))


def get(e, x):
    return ("get", e, x)


def call(f, *args):
    return ("call", f, args)


def send(e, x, *args):
    return ("send", e, x, args)


def let(x, e):
    return ("let", x, e)


def put(o, x, e):
    return ("put", o, x, e)


def ask(o, x, getter=NOTHING, setter=NOTHING):
    return ("ask", o, x, getter, setter)


def back(e):
    return ("return", e)


def do(e):
    return ("do", e)


def show(e):
    return ("print", e)


def revoking():
    return do(call(REVOKER))


def attempt(*statements):
    """Runs the statements; what is raised is printed behind an exclamation mark."""
    return ("try", statements, "e", (show(plus(words("!"), name("e"))),))


def at_depth(f, *statements):
    """A function f of n that runs the statements n calls deep, itself the first one, and returns what they return."""
    deeper = ("if", ("bin", "<", num(1), name("n")), (back(call(name(f), less_one("n"))),), ())
    return func(("n",), deeper, *statements)


# A function that prints its argument and returns it: it shows what is evaluated, when and how often.
SAY = let("say", func(("v",), show(name("v")), back(name("v"))))


def said(e):
    return call(name("say"), e)


def refused(text):
    """The end of a turn in which this was refused."""
    return ("over", False, ("text", text))


def ended(value):
    return ("over", True, value)


SIDES = ("left", "right")
OTHER = {"left": "right", "right": "left"}


class Both(Plain):
    """A plain world beside which a world with a membrane does the same deeds; they must amount to the same (q5)."""

    def __init__(self, left, right):
        Plain.__init__(self, left, right)
        # None when the two are not to be compared any more.
        self.world = world.World(left, right)

    def run(self, side, block, fuel):
        end = Plain.run(self, side, block, fuel)
        if end == LONG:
            self.world = None
        if self.world is not None:
            self.world.begin(side, block)
            while self.world.state() != "":
                self.world.go(1000)
            ok, value = self.world.ended()
            heap = self.world.held(side)[0]
            told = (ok, kind(heap, value), text_of(heap, value))
            self.compare(told, (end[1], kind(self.heap, end[2]), self.text(end[2])))
        return end

    def hand(self, side, x):
        done = Plain.hand(self, side, x)
        if self.world is not None:
            self.compare(self.world.hand(side, x), done)
        return done

    def revoke(self):
        Plain.revoke(self)
        # Code revokes by this method, too, and then the other world's code will.
        if self.world is not None and self.doing == []:
            self.world.revoke()
            self.compare(None, None)

    def unrevoke(self):
        """As if nobody had revoked: there is no such thing in a world."""
        self.revoked = False
        self.world = None

    def compare(self, told, wanted):
        forms = [self.world.held(side) for side in SIDES]
        gone = [len(made) for made in self.gone]
        told = (told, [(len(form[1]),) + form[2:4] for form in forms])
        wanted = (wanted, [(many, out, self.revoked) for many, out in zip(gone, self.outs)])
        if told != wanted:
            raise AssertionError(f"the worlds differ: {told}, plain {wanted}")
        check_trace(self.world.trace())


class World:
    """A plain world that takes statements as arguments and looks whether they are blocks."""

    def __init__(self, left=(), right=()):
        self.plain = Both(left, right)
        self.read = [0, 0]

    def turn(self, side, statements, fuel=ENOUGH):
        check_block(statements)
        return self.plain.run(side, statements, fuel)

    def left(self, *statements):
        return self.turn("left", statements)

    def right(self, *statements):
        return self.turn("right", statements)

    def made(self, side, **expressions):
        """Gives the module of the side variables and hands them over, in their order."""
        for x, e in expressions.items():
            if self.turn(side, (let(x, e),)) != DONE or not self.plain.hand(side, x):
                raise AssertionError(x)

    def variables(self, side):
        """The variables of the module of the side."""
        return dict(self.plain.heap[self.plain.modules[0 if side == "left" else 1]][1])

    def seen(self, side):
        """The lines that the side has printed since the last time."""
        at = 0 if side == "left" else 1
        told = self.plain.outs[at][self.read[at]:]
        self.read[at] += len(told)
        return told.split("\n")[:-1]
