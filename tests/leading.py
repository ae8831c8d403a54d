"""For leading worlds with a membrane, and for running their sides again."""

import unittest

from building import NONE, OTHER, SIDES, let

from membrane.replay import Replay
from membrane.world import World

DONE = (True, NONE)


def refused(text):
    return (False, ("text", text))


class Led:
    """A world that notes what the host did with each side, so that the sides can be run again."""

    def __init__(self, left=(), right=()):
        self.policies = {"left": left, "right": right}
        self.world = World(left, right)
        self.deeds = {"left": [], "right": []}
        self.read = 0
        self.printed = {"left": 0, "right": 0}

    def begin(self, side, *statements):
        """Begins a turn."""
        self.world.begin(side, statements)
        self.deeds[side].append(("run", statements))

    def finish(self):
        """Goes on until the world is at rest; how the turn has ended."""
        while self.world.state() != "":
            self.world.go(1000)
        return self.world.ended()

    def turn(self, side, *statements):
        self.begin(side, *statements)
        return self.finish()

    def left(self, *statements):
        return self.turn("left", *statements)

    def right(self, *statements):
        return self.turn("right", *statements)

    def hand(self, side, *names):
        """Hands over variables of the side; True if all were."""
        done = [self.world.hand(side, x) for x in names]
        self.deeds[side] += [("give", x) for x, told in zip(names, done) if told]
        return all(done)

    def made(self, side, **expressions):
        """Gives the module of the side variables and hands them over, in their order."""
        for x, e in expressions.items():
            if self.turn(side, let(x, e)) != (True, NONE) or not self.hand(side, x):
                raise AssertionError(x)
        self.events()

    def revoke(self):
        self.world.revoke()

    def events(self):
        """The events since the last time."""
        told = self.world.trace()[self.read:]
        self.read += len(told)
        return told

    def seen(self, side):
        """The lines that the side has printed since the last time."""
        told = self.world.out(side)[self.printed[side]:]
        self.printed[side] += len(told)
        return told.split("\n")[:-1]

    def variables(self, side):
        """The variables of the module of the side."""
        return dict(self.world.held(side)[0][0][1])

    def everything(self):
        """All that the world tells."""
        world = self.world
        sides = tuple((world.held(side), world.out(side), world.steps(side)) for side in SIDES)
        return (world.state(), world.ended(), world.trace(), sides)

    def replay(self, side, trace=None, deeds=None):
        """A replay of the side, of this world's trace and deeds if no others are told."""
        trace = self.world.trace() if trace is None else tuple(trace)
        deeds = self.deeds[side] if deeds is None else deeds
        return Replay(side, self.policies[side], tuple(deeds), trace)


class RequestCase(unittest.TestCase):
    def pairs(self, asks=(), owner=()):
        """For each side that asks a world, with the policy of each: the world, the side that asks and the owner."""
        for side in SIDES:
            policies = {side: asks, OTHER[side]: owner}
            yield Led(policies["left"], policies["right"]), side, OTHER[side]

    def same(self, told, wanted, message=None):
        # 1 and True are equal in Python, but not here.
        self.assertEqual(repr(told), repr(wanted), message)


class Noted(Led):
    """A world in which each step is made alone, and what its sides are then is noted."""

    def __init__(self, left=(), right=()):
        Led.__init__(self, left, right)
        # Of each side, the last held form that it had with each count of steps.
        self.lasts = {"left": [], "right": []}
        # The sides that wait, the one that began last at the end.
        self.waits = []
        # What a world would tell that is stopped there: see stop.
        self.stops = []
        self.note()

    def note(self):
        for side in SIDES:
            del self.lasts[side][self.world.steps(side):]
            self.lasts[side].append(self.world.held(side))

    def stop(self):
        """Notes for each side what its replay is to be if the world is stopped here; None if that is not promised."""
        for side in SIDES:
            form = self.world.held(side)
            waits = side != self.world.state() and self.waits[-1:] == [side]
            runs = side == self.world.state()
            told = None if waits and form[3] else (form, ("running",) if runs else ("same",))
            self.stops.append((side, tuple(self.deeds[side]), self.world.trace(), self.world.steps(side), told))

    def finish(self):
        self.note()
        self.stop()
        while self.world.state() != "":
            before, many = self.world.state(), len(self.world.trace())
            self.world.go(1)
            self.follow(before, self.world.trace()[many:])
            self.note()
            self.stop()
        return self.world.ended()

    def follow(self, before, events):
        for event in events:
            if event[0] == "request":
                self.waits.append(event[1])
            elif event[0] in ("denied", "reply"):
                self.waits.pop()
            elif event[0] == "end":
                self.waits = []
        if self.world.state() not in ("", before) and all(event[0] == "revoke" for event in events):
            self.waits.pop()

    def do(self, deeds):
        """Does deeds: ("run", side, block), ("hand", side, x) and ("revoke",)."""
        for deed in deeds:
            if deed[0] == "run":
                self.turn(deed[1], *deed[2])
            elif deed[0] == "hand":
                self.hand(deed[1], deed[2])
            else:
                self.revoke()
            self.note()
            self.stop()
        return self


def makers(trace):
    """Of each event of a world's trace, the side that made it; "host" for its revoking."""
    told, stack = [], []
    for event in trace:
        if event[0] in ("turn", "handed"):
            told.append(event[1])
            stack = [event[1]] if event[0] == "turn" else []
        elif event[0] == "end":
            told.append(stack[0])
            stack = []
        else:
            told.append(stack[-1] if stack else "host")
            if event[0] == "request":
                stack.append(OTHER[event[1]])
            elif event[0] in ("denied", "reply"):
                stack.pop()
    return told


class ReplayCase(RequestCase):
    """Replays of worlds that were noted."""

    def differs(self, replay, k):
        """The replay differs at the event k, and does nothing more."""
        replay.go(10 ** 6)
        self.same((replay.result(), replay.place()), (("differs", k), k))
        for many in (0, 1, 1000):
            self.assertEqual(replay.go(many), 0)
            self.same((replay.result(), replay.place()), (("differs", k), k))

    def is_the_side(self, noted):
        """A replay of each side is, step by step, the side (t4)."""
        trace = noted.world.trace()
        for side in SIDES:
            steps = noted.world.steps(side)
            replay = noted.replay(side)
            self.assertEqual(replay.go(0), 0)
            for many, form in enumerate(noted.lasts[side]):
                if replay.held() != form:
                    self.fail(f"{side}, {many} steps: {replay.held()}, in the world {form}")
                self.same(replay.result(), ("running",) if many < steps else ("same",))
                self.assertEqual(replay.go(1), 1 if many < steps else 0)
            self.assertEqual(replay.place(), len(trace))
            replay = noted.replay(side)
            self.assertEqual(replay.go(10 ** 9), steps)
            self.same((replay.result(), replay.place()), (("same",), len(trace)))
            self.assertTrue(replay.held() == noted.world.held(side))

    def is_the_side_where_it_stops(self, stops):
        """The same for worlds that were stopped; how many there were, and how many of which nothing is promised."""
        found = [0, 0]
        for policy, (side, deeds, trace, steps, told) in stops:
            replay = Replay(side, policy, deeds, trace)
            self.assertEqual(replay.go(steps), steps)
            if told is not None:
                form, result = told
                self.same(replay.result(), result)
                self.assertTrue(replay.held() == form)
            else:
                self.assertNotEqual(replay.result()[0], "differs")
            self.assertEqual(replay.place(), len(trace))
            found[told is None] += 1
        return found
