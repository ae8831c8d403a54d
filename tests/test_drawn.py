"""Drawn programs, policies and deeds: in a world, the plain world, a second reading of DOC.md, and in replays."""

import sys
import unittest
from collections import Counter

from drawing import SIDES, drawn
from leading import Led, Noted, ReplayCase
from reading import Reading

from membrane.plain import Plain
from membrane.traces import check_trace
from membrane.values import kind, text_of

# The second reading calls itself for each call of a program, and each part of one.
DEEP = 20000

# How often the membrane is revoked, and the numbers of the worlds that are drawn with it.
DRAWN = ((0.0, range(0, 60)), (0.01, range(60, 220)), (0.06, range(220, 320)))


def all_drawn(every=1):
    for revoking, numbers in DRAWN:
        for number in numbers[::every]:
            yield (number,) + drawn(number, revoking=revoking)


class DrawnCase(ReplayCase):
    def setUp(self):
        before = sys.getrecursionlimit()
        self.addCleanup(sys.setrecursionlimit, before)
        sys.setrecursionlimit(DEEP)


class PlainTest(DrawnCase):
    """q5: what the world amounts to."""

    def test_the_same_as_the_plain_world(self):
        found = Counter()
        for number, policies, deeds in all_drawn():
            led, plain = Led(*policies), Plain(*policies)
            for deed in deeds:
                if deed[0] == "run":
                    ok, value = led.turn(deed[1], *deed[2])
                    heap = led.world.held(deed[1])[0]
                    over, plain_ok, plain_value = plain.run(deed[1], deed[2], 10 ** 6)
                    self.same((over, plain_ok), ("over", ok), number)
                    self.assertEqual(kind(heap, value), kind(plain.heap, plain_value), number)
                    self.assertEqual(text_of(heap, value), plain.text(plain_value), number)
                    found["given" if ok else text_of(heap, value)] += 1
                elif deed[0] == "hand":
                    self.assertIs(led.hand(deed[1], deed[2]), plain.hand(deed[1], deed[2]), number)
                else:
                    led.revoke()
                    plain.revoke()
                for at, side in enumerate(SIDES):
                    form = led.world.held(side)
                    self.assertEqual(led.world.out(side), plain.outs[at], number)
                    self.assertIs(form[3], plain.revoked, number)
                    self.assertEqual(len(form[1]), len(plain.gone[at]), number)
            found.update([event[0] for event in led.world.trace()])
            found.update([("asks", event[4][0]) for event in led.world.trace() if event[0] == "request"])
            found.update([("depth", event[2]) for event in led.world.trace() if event[0] == "request"])
        # Otherwise this would say little.
        for told in ("given", "no such name", "denied", "revoked", "too deep", "wrong kind", "revoke", "reply"):
            self.assertGreater(found[told], 4, told)
        self.assertEqual(len([told for told in found if told[0] == "asks"]), 12)
        self.assertEqual(len([told for told in found if told[0] == "depth"]), 21)


class ReadingTest(DrawnCase):
    """The events, the heaps and all else, by the second reading."""

    def test_the_same_as_the_reading(self):
        for number, policies, deeds in all_drawn():
            led, reading = Led(*policies), Reading(*policies)
            for deed in deeds:
                if deed[0] == "run":
                    self.same(led.turn(deed[1], *deed[2]), reading.turn(deed[1], deed[2]), number)
                elif deed[0] == "hand":
                    self.assertIs(led.hand(deed[1], deed[2]), reading.hand(deed[1], deed[2]), number)
                else:
                    led.revoke()
                    reading.revoke()
                self.assertTrue(led.world.trace() == tuple(reading.events), number)
                for side in SIDES:
                    party = reading.parties[side]
                    told = (tuple(party.heap), tuple(party.gone), party.out, reading.revoked)
                    self.assertTrue(led.world.held(side)[:4] == told, number)
            self.assertIsNone(check_trace(led.world.trace()))


class SlicesTest(DrawnCase):
    """m1: in slices and at once."""

    def test_in_slices(self):
        for number, policies, deeds in all_drawn(4):
            told = []
            for slices in ((10 ** 9,), (1,), (3, 0, 10)):
                led = Led(*policies)
                for deed in deeds:
                    if deed[0] == "run":
                        led.begin(deed[1], *deed[2])
                        at = 0
                        while led.world.state() != "":
                            led.world.go(slices[at % len(slices)])
                            at += 1
                    elif deed[0] == "hand":
                        led.hand(deed[1], deed[2])
                    else:
                        led.revoke()
                told.append(led.everything())
            self.assertTrue(told[0] == told[1] == told[2], number)


class ReplayedTest(DrawnCase):
    """t2 to t4."""

    def test_each_side_of_each_world(self):
        for number, policies, deeds in all_drawn(2):
            with self.subTest(number=number):
                self.is_the_side(Noted(*policies).do(deeds))

    def test_where_worlds_stop(self):
        found = Counter()
        for number, policies, deeds in all_drawn(16):
            noted = Noted(*policies).do(deeds)
            stops = [(noted.policies[stop[0]], stop) for stop in noted.stops]
            promised, not_promised = self.is_the_side_where_it_stops(stops[::1 + len(stops) // 200])
            found.update({"promised": promised, "not promised": not_promised})
        self.assertGreater(found["promised"], 1000, found)

    def test_in_slices(self):
        for number, policies, deeds in all_drawn(8):
            noted = Noted(*policies).do(deeds)
            for side in SIDES:
                for slices in ((2,), (7, 0, 1), (40,)):
                    replay, made, at = noted.replay(side), 0, 0
                    made += replay.go(0)
                    while replay.result() == ("running",):
                        made += replay.go(slices[at % len(slices)])
                        at += 1
                    self.same((made, replay.result()), (noted.world.steps(side), ("same",)), number)
                    self.assertTrue(replay.held() == noted.world.held(side), number)


if __name__ == "__main__":
    unittest.main()
