"""Replay: it is the side, and where it differs (t2 to t4)."""

import unittest

from building import (
    NONE, NOTHING, OTHER, REVOKER, SIDES, TRUE,
    ask, attempt, back, call, do, func, get, giving, less_one, let, name, num, put, revoking, send, show, thing, words,
)
from leading import Led, Noted, ReplayCase, makers

from membrane.errors import BadPolicy, BadTrace
from membrane.replay import Replay
from membrane.traces import check_trace

POLICIES = (
    (("only", 1, ("hide", "x")), ("only", 2, ("nocall",)), ("protect", "z")),
    (("only", 0, ("protect", "y")), ("only", 1, ("hide", "y")), ("hide", "z")),
)


def caller(f):
    """A function of n that asks f of one less, until there is none left, and returns what it was passed then."""
    return func(("n", "v"), show(name("n")), ("if", ("bin", "<", num(0), name("n")), (
        back(call(name(f), less_one("n"), name("v"))),), ()), back(name("v")))


def start(side, f, g):
    """Deeds with which the side makes things of every kind and hands them over; f calls g of the other side."""
    own = "l" if side == "left" else "r"
    made = (
        let(own + "o", thing(x=num(1), y=words("t"))), let(own + "p", thing(name(own + "o"), y=num(2), z=num(3))),
        let(own + "n", giving(num(4))), let(f, caller(g)),
        let(own + "b", func(("v",), ("raise", name("v")))),
        ask(name(own + "o"), "a", func((), back(name("me"))), func(("w",), put(name("me"), "x", name("w")))),
    )
    return [("run", side, made)] + [("hand", side, x) for x in (own + "o", own + "p", own + "n", f, own + "b")]


def meeting(side, f, g):
    """A turn of the side that does every operation on the things of the other one; f is its own caller."""
    o, p, n, b = [name(("r" if side == "left" else "l") + x) for x in "opnb"]
    return ("run", side, (
        show(get(o, "x")), attempt(show(get(p, "x"))), attempt(show(get(p, "y"))), show(("names", p)),
        show(("has", o, "q")), show(("look", o, "x")), show(("parent", o)), show(("is_open", o)), show(("kind", b)),
        attempt(put(o, "y", num(1))), attempt(put(o, "q", thing())), attempt(ask(p, "q", giving(num(2)), NOTHING)),
        attempt(("drop", o, "q"), ("fix", o, "x"), ("close", p)), attempt(show(call(n))), attempt(do(call(o))),
        show(call(name(f), num(3), o)), attempt(do(call(name(f), num(2), giving(num(1))))), attempt(do(call(b))),
        ("try", (do(call(b, thing(o))),), "e", (show(("bin", "==", ("parent", name("e")), o)),)),
        show(get(o, "a")), attempt(put(o, "a", words("t"))), attempt(show(get(p, "q"))),
        let("k", thing(o)), attempt(put(name("k"), "y", num(5))), attempt(put(name("k"), "w", num(6))),
        show(("names", name("k"))), ("if", call(name(g), num(20), TRUE), (do(num(1)),), ()),
    ))


def again(side):
    """Later deeds: what is handed over twice, to and fro, and of plain values."""
    return [
        ("hand", side, "k"), ("hand", OTHER[side], "k"), ("hand", side, "me"), ("hand", side, "nowhere"),
        ("run", OTHER[side], (show(("names", name("k"))), back(name("k")))),
    ]


PEACE = (
    start("left", "f", "g") + start("right", "g", "f") + [meeting("left", "f", "g")] + again("left")
    + [meeting("right", "g", "f")] + again("right")
)


def waiting(depth):
    """Deeds in which so many requests wait, to and fro, when somebody revokes; then all prints what it is told."""
    def asking(f):
        deeper = ("if", ("bin", "<", num(0), name("n")), (
            attempt(show(call(name(f), less_one("n")))), show(name("n")), back(name("n")),
        ), ())
        return func(("n",), deeper, revoking(), show(words("revoked here")), attempt(show(call(name(f), num(0)))),
                    back(thing()))

    return [
        ("run", "left", (let("f", asking("g")),)), ("hand", "left", "f"),
        ("run", "right", (let("g", asking("f")),)), ("hand", "right", "g"),
        ("run", "left", (show(call(name("f"), num(depth))), show(words("end")))),
        ("run", "right", (attempt(show(call(name("f"), num(1)))), show(words("end")))),
        ("hand", "left", "f"), ("revoke",), ("run", "left", (do(num(1)),)),
    ]


def worlds():
    """Worlds in peace, revoked by the host and by code, at rest and while sides wait."""
    yield Noted(*POLICIES).do(PEACE)
    yield Noted(*POLICIES).do(PEACE[:-6] + [("revoke",)] + PEACE[-6:] + [("revoke",)])
    yield Noted(*POLICIES).do(PEACE[:14] + [("run", "right", (revoking(), show(num(1)), revoking()))] + PEACE[14:])
    for depth in range(6):
        yield Noted().do(waiting(depth))
    within = ("run", "left", (attempt(do(call(name("g"), num(1), call(REVOKER)))), show(num(1))))
    yield Noted(*POLICIES).do(PEACE[:12] + [within] + PEACE[12:])


class StartTest(ReplayCase):
    def test_no_event_yet(self):
        for side in SIDES:
            replay = Replay(side, (), (("run", (do(num(1)),)),), (("turn", side), ("end",)))
            self.same((replay.result(), replay.place()), (("same",), 0))
            self.assertTrue(replay.held() == Led().world.held(side))

    def test_no_deed_and_no_event(self):
        for side in SIDES:
            replay = Replay(side, (), (), ())
            for many in (0, 1, 100):
                self.assertEqual(replay.go(many), 0)
                self.same((replay.result(), replay.place()), (("same",), 0))

    def test_policy_ahead_of_trace(self):
        for side in SIDES:
            for policy in (None, ("hide",), (("hide", "X"),), (("nocall",),) * 13, (("only", True, ("nocall",)),)):
                for trace in ((), (("end",),), (None,)):
                    self.assertRaises(BadPolicy, Replay, side, policy, (), trace)

    def test_trace(self):
        for side in SIDES:
            for trace, place in (
                ((("end",),), 0), ((None,), 0), ((("turn", "left"), ("turn", "left")), 1),
                ((("turn", "left"), ("end",), ("denied",)), 2), ((("turn", "left"), ("reply", True, NONE), 5), 1),
            ):
                with self.assertRaises(BadTrace) as caught:
                    Replay(side, (), (), trace)
                self.assertEqual(caught.exception.place, place)

    def test_blocks_are_not_looked_at(self):
        for block in ((), None, "block", (("let", "X", num(1)),)):
            Replay("left", (), (("run", block), ("give", "x")), (("turn", "right"), ("end",)))

    def test_nothing_that_is_handed_in_changes(self):
        noted = Noted(*POLICIES).do(PEACE)
        before = repr((noted.deeds, noted.policies, noted.world.trace()))
        for side in SIDES:
            noted.replay(side).go(10 ** 6)
        self.assertEqual(repr((noted.deeds, noted.policies, noted.world.trace())), before)


class SameTest(ReplayCase):
    """t2 and t4."""

    def test_the_worlds_are_rich(self):
        # Otherwise the tests below would say little.
        told = [event for noted in worlds() for event in noted.world.trace()]
        words_of = [event[0] for event in told]
        for word, many in (("turn", 40), ("handed", 40), ("denied", 5), ("reply", 100), ("revoke", 9)):
            self.assertGreaterEqual(words_of.count(word), many, word)
        for side in SIDES:
            asked = [event[4][0] for event in told if event[:2] == ("request", side)]
            self.assertEqual(len(set(asked)), 12, set(asked))
        self.assertEqual({event[2] for event in told if event[0] == "request"} & {0, 1, 2, 20}, {0, 1, 2, 20})
        self.assertEqual({event[1] for event in told if event[0] == "reply"}, {True, False})

    def test_step_by_step(self):
        for noted in worlds():
            self.is_the_side(noted)

    def test_stopped_behind_each_step_and_deed(self):
        found = [0, 0]
        for noted in worlds():
            stops = [(noted.policies[stop[0]], stop) for stop in noted.stops[::1 if len(noted.stops) < 900 else 7]]
            for k, many in enumerate(self.is_the_side_where_it_stops(stops)):
                found[k] += many
        self.assertGreater(min(found), 50, found)

    def test_in_slices(self):
        for noted in worlds():
            for side in SIDES:
                whole = noted.replay(side)
                whole.go(10 ** 6)
                for slices in ((1,), (2, 1), (0, 5), (17,), (100, 0, 0, 3)):
                    replay = noted.replay(side)
                    made, at = replay.go(0), 0
                    self.assertEqual(made, 0)
                    while replay.result() == ("running",):
                        many = slices[at % len(slices)]
                        told = replay.go(many)
                        if replay.result() == ("running",):
                            self.assertEqual(told, many)
                        made, at = made + told, at + 1
                    self.assertEqual(made, noted.world.steps(side))
                    self.same((replay.result(), replay.place()), (whole.result(), whole.place()))
                    self.assertTrue(replay.held() == whole.held())

    def test_go_0_goes_on_where_no_step_is_needed(self):
        # Turns, handings and requests of the other side that a policy answers or denies.
        policy = (("hide", "x"), ("readonly",), ("nocall",))
        noted = Noted((), policy).do([
            ("run", "right", (let("t", thing(x=num(1), y=num(2))),)), ("hand", "right", "t"), ("run", "left", (
                attempt(do(get(name("t"), "x"))), show(("names", name("t"))), attempt(("close", name("t"))),
                attempt(do(call(name("t")))), show(("has", name("t"), "x")), let("u", thing()),
            )), ("hand", "left", "u"), ("run", "left", (show(get(name("t"), "y")),)),
        ])
        replay = noted.replay("right")
        self.assertEqual((replay.go(0), replay.place(), replay.result()), (0, 1, ("running",)))
        first = noted.world.steps("right")
        made = 0
        while replay.place() < 3:
            made += replay.go(1)
        # Behind the last step of the turn all goes by at once, until the side must do what it is asked for.
        asked = [k for k, event in enumerate(noted.world.trace()) if event[0] == "request"][-1]
        self.assertEqual((replay.place(), replay.result()), (asked + 1, ("running",)))
        self.assertIn("u", dict(replay.held()[0][0][1]))
        self.assertLess(made, first)
        self.assertEqual(replay.go(10 ** 6), first - made)
        self.same(replay.result(), ("same",))

    def test_place_and_result_on_the_way(self):
        noted = Noted(*POLICIES).do(PEACE)
        trace = noted.world.trace()
        for side in SIDES:
            replay, last = noted.replay(side), 0
            while True:
                made = replay.go(1)
                self.assertLessEqual(last, replay.place())
                if made == 0:
                    break
                if replay.result() == ("running",):
                    # The last event of those passed has set the side going, or it is one of its own.
                    event = trace[replay.place() - 1]
                    if makers(trace)[replay.place() - 1] == side:
                        self.assertIn(event[0], ("turn",))
                    else:
                        self.assertIn(event[0], ("request", "reply", "denied"))
                last = replay.place()
            self.same((last, replay.result()), (len(trace), ("same",)))

    def test_a_replay_that_waits_is_the_same(self):
        noted = Noted().do([("run", "right", (let("f", giving(num(1))),)), ("hand", "right", "f"),
                            ("run", "left", (show(call(name("f"))), show(num(2))))])
        trace = noted.world.trace()
        asked = [event[0] for event in trace].index("request") + 1
        replay = noted.replay("left", trace[:asked])
        many = replay.go(1000)
        self.assertLess(many, noted.world.steps("left"))
        self.same((replay.result(), replay.place()), (("same",), asked))
        self.assertEqual(replay.go(1000), 0)

    def test_a_replay_without_an_end_runs(self):
        loop = (("while", TRUE, (do(num(1)),)),)
        for trace in ((("turn", "left"),), (("turn", "left"), ("end",))):
            replay = Replay("left", (), (("run", loop),), trace)
            for many in (1, 0, 1000):
                self.assertEqual(replay.go(many), many)
                self.same((replay.result(), replay.place()), (("running",), 1))

    def test_replays_do_not_touch_one_another(self):
        noted = Noted(*POLICIES).do(PEACE)
        replays = [noted.replay("left"), noted.replay("right"), noted.replay("left")]
        running = True
        while running:
            running = [replay.go(many) for replay, many in zip(replays, (1, 2, 3))] != [0, 0, 0]
        for replay, side in zip(replays, ("left", "right", "left")):
            self.same(replay.result(), ("same",))
            self.assertTrue(replay.held() == noted.world.held(side))
        self.is_the_side(noted)


class ToldTest(ReplayCase):
    """What the other side and the host did, as the events tell it."""

    def run_left(self, block, *events):
        """A replay of the left side in which it begins with this block; the right one has given t and f to it."""
        given = (
            ("handed", "right", "t", ("right", 0, "object")), ("handed", "right", "f", ("right", 1, "function")),
            ("handed", "right", "v", ("int", 3)),
        )
        replay = Replay("left", (), (("run", block),), given + (("turn", "left"),) + events)
        replay.go(10 ** 6)
        return replay

    def test_handed(self):
        replay = self.run_left((show(name("t")), show(name("f")), show(name("v")), show(name("me"))), ("end",))
        self.same(replay.result(), ("same",))
        self.assertEqual(replay.held()[2], "<object>\n<function>\n3\nNone\n")
        told = {"me": NONE, "t": ("far", 0, "object"), "f": ("far", 1, "function"), "v": ("int", 3)}
        self.assertEqual(dict(replay.held()[0][0][1]), told)

    def test_replies(self):
        asked = ("request", "left", 0, 1, ("call", NONE, ()))
        block = (attempt(show(call(name("f")))),)
        for reply, line in (
            (("reply", True, ("int", 5)), "5"), (("reply", True, ("text", "another")), "another"),
            (("reply", False, ("text", "words")), "!words"), (("denied",), "!denied"), (("reply", True, NONE), "None"),
            (("reply", True, ("right", 0, "object")), "<object>"),
            (("reply", True, ("right", 2, "function")), "<function>"),
            (("reply", True, ("revoker",)), "<revoker>"), (("revoke",), "!revoked"),
        ):
            replay = self.run_left(block, asked, reply, ("end",))
            self.same((replay.result(), replay.place()), (("same",), 7))
            self.assertEqual(replay.held()[2], line + "\n")

    def test_requests(self):
        # The right side asks the left one; what it is replied is just the next event.
        block = (let("o", thing(x=num(1))), let("g", func(("a",), show(name("a")), back(name("o")))))
        given = (("turn", "left"), ("end",), ("handed", "left", "o", ("left", 0, "object")),
                 ("handed", "left", "g", ("left", 1, "function")), ("turn", "right"))
        deeds = (("run", block), ("give", "o"), ("give", "g"))
        o = ("left", 0, "object")
        for n, depth, operation, reply in (
            (0, 0, ("get", "x", o), ("reply", True, ("int", 1))), (0, 19, ("get", "x", o), ("reply", True, ("int", 1))),
            (0, 20, ("get", "x", o), ("reply", False, ("text", "too deep"))),
            (0, 20, ("names",), ("reply", True, ("text", "x"))),
            (0, 3, ("get", "x", ("int", 5)), ("reply", True, ("int", 1))),
            (0, 3, ("put", "y", ("int", 1), ("int", 5)), ("reply", False, ("text", "not an object"))),
            (0, 3, ("put", "y", ("int", 1), ("revoker",)), ("reply", False, ("text", "not an object"))),
            (0, 0, ("define", "y", ("data", ("right", 0, "object"), True)), ("reply", True, NONE)),
            (0, 0, ("call", NONE, ()), ("reply", False, ("text", "not a function"))),
            (1, 0, ("call", NONE, ()), ("reply", False, ("text", "wrong number"))),
            (1, 18, ("call", ("int", 1), (("right", 0, "function"),)), ("reply", True, o)),
            (1, 19, ("call", NONE, (NONE,)), ("reply", False, ("text", "too deep"))),
            (1, 0, ("close",), ("reply", True, NONE)), (0, 0, ("parent",), ("reply", True, NONE)),
        ):
            trace = given + (("request", "right", depth, n, operation), reply, ("end",))
            replay = Replay("left", (), deeds, trace)
            replay.go(10 ** 6)
            self.same((replay.result(), replay.place()), (("same",), 8), operation)
            for other in (("reply", not reply[1], reply[2]), ("reply", reply[1], ("text", "other")), ("denied",)):
                self.differs(Replay("left", (), deeds, given + (trace[5], other, ("end",))), 6)
            self.differs(Replay("left", (), deeds, given + (trace[5],)), 6)

    def test_a_define_is_done_as_it_stands_in_the_event(self):
        # No program defines what is fixed, but a trace may tell of it.
        given = (("turn", "left"), ("end",), ("handed", "left", "o", ("left", 0, "object")), ("turn", "right"))
        deeds = (("run", (let("o", thing()),)), ("give", "o"))
        o, far = ("left", 0, "object"), ("right", 0, "function")
        for member, own in (
            (("data", far, True), ("data", ("far", 0, "function"), True)),
            (("data", o, False), ("data", ("ref", 1), False)),
            (("ask", far, o, True), ("ask", ("far", 0, "function"), ("ref", 1), True)),
            (("ask", NONE, far, False), ("ask", NONE, ("far", 0, "function"), False)),
        ):
            asked = ("request", "right", 0, 0, ("define", "x", member))
            replay = Replay("left", (), deeds, given + (asked, ("reply", True, NONE), ("end",)))
            replay.go(1000)
            self.same(replay.result(), ("same",))
            self.same(replay.held()[0][1], ("object", (("x", own),), NONE, True))

    def test_turns_and_ends_of_the_other_side_tell_nothing(self):
        turn = (("turn", "right"), ("end",))
        trace = turn * 3 + (("turn", "right"), ("revoke",), ("end",)) + turn
        replay = Replay("left", (), (("run", (do(num(1)),)), ("give", "x")), trace)
        self.assertEqual(replay.go(100), 0)
        self.same((replay.result(), replay.place()), (("same",), len(trace)))
        self.assertIs(replay.held()[3], True)
        self.assertTrue(replay.held()[0] == Led().world.held("left")[0])

    def test_revoke_of_the_host(self):
        replay = Replay("left", (), (("run", (revoking(), show(num(1)))),), (("revoke",), ("turn", "left"), ("end",)))
        replay.go(1000)
        self.same((replay.result(), replay.held()[3]), (("same",), True))
        # Without it, the side revokes itself.
        replay = Replay("left", (), (("run", (revoking(), show(num(1)))),), (("turn", "left"), ("end",)))
        self.differs(replay, 1)
        replay = Replay("left", (), (("run", (revoking(), show(num(1)))),), (("turn", "left"), ("revoke",), ("end",)))
        replay.go(1000)
        self.same((replay.result(), replay.place()), (("same",), 3))

    def test_revoke_while_it_waits(self):
        # It goes on at once, though the other side is not done in the world.
        asked = ("request", "left", 0, 1, ("call", NONE, ()))
        block = (attempt(do(call(name("f")))), attempt(do(call(name("f")))), show(words("on")))
        replay = self.run_left(block, asked, ("revoke",), ("end",))
        self.same((replay.result(), replay.place()), (("same",), 7))
        self.assertEqual(replay.held()[2], "!revoked\n!revoked\non\n")
        self.differs(self.run_left(block, asked, ("revoke",)), 6)

    def test_revoke_while_it_is_asked_and_waits(self):
        # Once it is back at the older request, that one ends, too.
        h = ("left", 0, "function")
        made = let("h", func((), attempt(do(call(name("f")))), show(words("h"))))
        block = (made, attempt(do(call(name("f"), name("h")))))
        replay = self.run_left(
            block, ("request", "left", 0, 1, ("call", NONE, (h,))), ("request", "right", 2, 0, ("call", NONE, ())),
            ("request", "left", 4, 1, ("call", NONE, ())), ("revoke",), ("end",),
        )
        self.same((replay.result(), replay.place()), (("same",), 9))
        self.assertEqual(replay.held()[2], "!revoked\nh\n!revoked\n")

    def test_revoking_by_itself_while_it_is_asked_and_waits(self):
        h = ("left", 0, "function")
        block = (let("h", func((), revoking(), show(words("h")))), attempt(do(call(name("f"), name("h")))))
        events = (("request", "left", 0, 1, ("call", NONE, (h,))), ("request", "right", 2, 0, ("call", NONE, ())))
        replay = self.run_left(block, *events, ("revoke",), ("end",))
        self.same((replay.result(), replay.place()), (("same",), 8))
        self.assertEqual(replay.held()[2], "h\n!revoked\n")
        self.differs(self.run_left(block, *events, ("reply", True, NONE)), 6)
        self.differs(self.run_left(block, *events), 6)

    def test_what_is_served_behind_revoking_gives_no_event(self):
        block = (let("o", thing()), let("g", func((), revoking(), show(num(1)), back(name("o")))))
        given = (("turn", "left"), ("end",), ("handed", "left", "g", ("left", 0, "function")), ("turn", "right"))
        asked = ("request", "right", 0, 0, ("call", NONE, ()))
        trace = given + (asked, ("revoke",), ("end",), ("turn", "right"), ("end",))
        replay = Replay("left", (), (("run", block), ("give", "g")), trace)
        replay.go(1000)
        self.same((replay.result(), replay.place()), (("same",), 9))
        self.assertEqual(replay.held()[1:4], ((2,), "1\n", True))


class DiffersTest(ReplayCase):
    """t3."""

    def test_an_event_behind_the_last_one(self):
        for statements in (
            (do(num(1)),), (revoking(),), (do(get(name("t"), "x")),), (("raise", num(1)),), (back(num(1)),),
        ):
            given = (("handed", "right", "t", ("right", 0, "object")), ("turn", "left"))
            self.differs(Replay("left", (), (("run", statements),), given), 2)

    def test_what_was_passed_stays_passed(self):
        replay = Replay("left", (), (("run", (show(num(1)), do(get(num(1), "x")))),), (("turn", "left"), ("revoke",)))
        many = replay.go(1000)
        self.assertGreater(many, 2)
        self.same((replay.result(), replay.place()), (("differs", 1), 1))

    def test_it_differs_when_the_step_is_made(self):
        deeds = (("run", (show(num(1)), show(num(2)))),)
        count = Replay("left", (), deeds, (("turn", "left"), ("end",))).go(1000)
        replay = Replay("left", (), deeds, (("turn", "left"),))
        self.assertEqual(replay.go(count - 1), count - 1)
        self.same(replay.result(), ("running",))
        self.assertEqual(replay.go(1), 1)
        self.same(replay.result(), ("differs", 1))
        self.assertEqual(replay.go(1), 0)

    def test_deeds_that_no_event_asks_for_are_left(self):
        for noted in (Noted(*POLICIES).do(PEACE), Noted().do(waiting(2))):
            for side in SIDES:
                for more in ((("run", (show(num(1)),)),), (("give", "o"),), (("run", ()), ("give", "x")) * 3):
                    replay = noted.replay(side, deeds=tuple(noted.deeds[side]) + more)
                    replay.go(10 ** 6)
                    self.same((replay.result(), replay.place()), (("same",), len(noted.world.trace())))
                    self.assertTrue(replay.held() == noted.world.held(side))

    def asked_for(self, noted, side):
        """The indices of the events that take a deed of the side, in their order."""
        return [k for k, event in enumerate(noted.world.trace()) if event[0] in ("turn", "handed") and event[1] == side]

    def test_deeds_cut_off(self):
        for noted in (Noted(*POLICIES).do(PEACE), Noted().do(waiting(2))):
            for side in SIDES:
                for at, k in enumerate(self.asked_for(noted, side)):
                    self.differs(noted.replay(side, deeds=noted.deeds[side][:at]), k)

    def test_deeds_of_the_other_kind(self):
        noted = Noted(*POLICIES).do(PEACE)
        for side in SIDES:
            for at, k in enumerate(self.asked_for(noted, side)):
                deed = noted.deeds[side][at]
                others = [("give", "me"), ("give", "nowhere")]
                if deed[0] == "give":
                    others = [("run", (do(num(1)),)), ("give", "nowhere"), ("give", deed[1] + "x")]
                for other in others:
                    told = noted.deeds[side][:at] + [other] + noted.deeds[side][at + 1:]
                    if other != deed:
                        self.differs(noted.replay(side, deeds=told), k)

    def test_deeds_left_out_and_put_twice(self):
        block, other = (let("o", thing()), show(num(1))), (show(num(2)),)
        noted = Noted().do([
            ("run", "left", block), ("hand", "left", "o"), ("run", "left", other), ("hand", "left", "me"),
        ])
        deeds = noted.deeds["left"]
        # turn, end, handed, turn, end, handed
        for told, k in (
            (deeds[1:], 0), (deeds[:1] + deeds[2:], 2), (deeds[:2] + deeds[3:], 3), (deeds[:3], 5), ((), 0),
            (deeds[:1] + deeds, 2), (deeds[:2] + deeds[1:], 3), (deeds[:3] + deeds[2:], 5), (deeds[::-1], 0),
        ):
            self.differs(noted.replay("left", deeds=told), k)

    def test_another_block(self):
        # The first event that it makes otherwise.
        noted = Noted().do([
            ("run", "right", (let("t", thing(x=num(1), y=num(2))),)), ("hand", "right", "t"),
            ("run", "left", (show(get(name("t"), "x")), show(get(name("t"), "y")), show(num(3)))),
        ])
        # turn, end, handed, turn, request, reply, request, reply, end
        x, y = get(name("t"), "x"), get(name("t"), "y")
        for block, k in (
            ((show(x), show(num(9)), show(y)), None), ((show(y), show(x)), 4), ((show(x), show(x)), 6),
            ((show(x), show(y), show(x)), 8), ((show(x),), 6), ((show(num(1)),), 4), ((revoking(),), 4),
            ((let("o", thing(name("t"))), show(get(name("o"), "x"))), 4), ((show(x), revoking(), show(y)), 6),
            ((do(call(func((), do(x)))),), 4),
        ):
            replay = noted.replay("left", deeds=(("run", block),))
            if k is None:
                replay.go(1000)
                self.same(replay.result(), ("same",))
            else:
                self.differs(replay, k)

    def test_a_handing_with_another_value(self):
        block = (let("o", thing()), let("f", giving(num(1))), let("n", num(1)), let("b", TRUE))
        deeds = [("run", block)]
        o, f = ("left", 0, "object"), ("left", 0, "function")
        values = {"o": o, "f": f, "n": ("int", 1), "b": ("bool", True), "me": NONE}
        for x, value in values.items():
            for other in list(values.values()) + [("int", 2), ("bool", False), ("text", "1"), ("revoker",)]:
                trace = (("turn", "left"), ("end",), ("handed", "left", x, other))
                replay = Replay("left", (), deeds + [("give", x)], trace)
                if repr(other) == repr(value):
                    replay.go(1000)
                    self.same(replay.result(), ("same",))
                else:
                    self.differs(replay, 2)
        for x in ("nowhere", "a"):
            trace = (("turn", "left"), ("end",), ("handed", "left", x, NONE))
            self.differs(Replay("left", (), deeds + [("give", x)], trace), 2)

    def test_a_handing_of_another_variable(self):
        deeds = (("run", (let("a", num(1)), let("b", num(1)))), ("give", "a"))
        for x, k in (("a", None), ("b", 2), ("me", 2)):
            replay = Replay("left", (), deeds, (("turn", "left"), ("end",), ("handed", "left", x, ("int", 1))))
            if k is None:
                replay.go(1000)
                self.same(replay.result(), ("same",))
            else:
                self.differs(replay, k)

    def test_another_policy(self):
        noted = Noted().do([
            ("run", "left", (let("o", thing(x=num(1))), let("f", giving(num(1))))), ("hand", "left", "o"),
            ("hand", "left", "f"),
            ("run", "right", (show(get(name("o"), "x")), put(name("o"), "x", num(2)), show(call(name("f"))))),
        ])
        # turn, end, handed, handed, turn, request, reply, request, reply, request, reply, end
        for policy, k in (
            ((), None), ((("hide", "x"),), 6), ((("protect", "x"),), 8), ((("readonly",),), 8), ((("nocall",),), 10),
            ((("only", 1, ("nocall",)),), 10), ((("only", 0, ("nocall",)),), None),
            ((("only", 1, ("hide", "x")),), None),
        ):
            replay = Replay("left", policy, tuple(noted.deeds["left"]), noted.world.trace())
            if k is None:
                replay.go(1000)
                self.same(replay.result(), ("same",))
            else:
                self.differs(replay, k)


def stands(trace):
    try:
        check_trace(trace)
    except BadTrace:
        return False
    return True


def others_of(event, side, trace, k):
    """Events that differ from this one, which the side has made."""
    told = [("denied",), ("revoke",), ("end",), ("reply", True, ("int", 12345)), ("reply", False, NONE)]
    told += [("request", side, depth, n, ("has", "q")) for depth in (0, 1, 20) for n in (0, 1)]
    word = event[0]
    if word == "reply":
        told += [("reply", not event[1], event[2]), ("reply", event[1], (side, 0, "object"))]
    if word == "request":
        told += [event[:2] + (depth,) + event[3:] for depth in (0, event[2] + 1)]
        told += [event[:3] + (n,) + event[4:] for n in range(3)] + [event[:4] + (("is_open",),)]
        if event[4][0] in ("get", "put", "define"):
            told.append(event[:4] + (event[4][:1] + ("qq",) + event[4][2:],))
    if word == "turn":
        told = [("handed", side, "me", NONE)]
    if word == "handed":
        told = [event[:2] + ("qq",) + event[3:], event[:3] + (("int", 12345),), ("turn", side)]
    return [other for other in told if other != event]


class OwnEventsTest(ReplayCase):
    """An event of the side itself that is changed, left out or cut off."""

    def each(self):
        for noted in worlds():
            trace = noted.world.trace()
            made = makers(trace)
            for side in SIDES:
                own = [k for k in range(len(trace)) if made[k] == side]
                # Of the long ones some are enough.
                for k in own if len(own) < 40 else own[::5] + own[-3:]:
                    yield noted, side, trace, k

    def test_changed(self):
        many = 0
        for noted, side, trace, k in self.each():
            for other in others_of(trace[k], side, trace, k):
                for behind in (trace[k + 1:], ()):
                    told = trace[:k] + (other,) + behind
                    if stands(told):
                        self.differs(noted.replay(side, told), k)
                        many += 1
        self.assertGreater(many, 300)

    def test_left_out(self):
        many = 0
        for noted, side, trace, k in self.each():
            told = trace[:k] + trace[k + 1:]
            if trace[k][0] not in ("turn", "handed") and trace[k + 1:k + 2] != (trace[k],) and stands(told):
                self.differs(noted.replay(side, told), k)
                many += 1
        self.assertGreater(many, 10)

    def test_cut_off(self):
        many = 0
        for noted, side, trace, k in self.each():
            if trace[k][0] not in ("turn", "handed"):
                self.differs(noted.replay(side, trace[:k]), k)
                many += 1
        self.assertGreater(many, 100)

    def test_a_handing_that_is_left_out(self):
        noted = Noted().do([
            ("run", "left", (let("a", num(1)), let("b", num(2)))), ("hand", "left", "a"), ("hand", "left", "b"),
        ])
        trace = noted.world.trace()
        self.differs(noted.replay("left", trace[:2] + trace[3:]), 2)
        replay = noted.replay("left", trace[:3])
        replay.go(100)
        self.same(replay.result(), ("same",))

    def test_an_event_put_twice(self):
        for noted, side, trace, k in self.each():
            told = trace[:k + 1] + trace[k:]
            if trace[k][0] in ("reply", "denied", "request", "revoke") and stands(told):
                # The second one is not the side's own, or it is not what the side does.
                replay = noted.replay(side, told)
                replay.go(10 ** 6)
                self.assertGreater(replay.place(), k)


class OthersEventsTest(ReplayCase):
    """Events of the other side that are changed: the side does what follows from them."""

    def test_another_reply(self):
        noted = Noted().do([
            ("run", "right", (let("t", thing(x=num(1))),)), ("hand", "right", "t"),
            ("run", "left", (attempt(show(get(name("t"), "x"))), attempt(show(send(name("t"), "x"))))),
        ])
        trace = noted.world.trace()
        # turn, end, handed, turn, request, reply, request, reply, end
        for k, event, line in (
            (5, ("reply", True, ("int", 2)), "2\n!not a function\n"), (5, ("denied",), "!denied\n!not a function\n"),
            (5, ("reply", False, ("text", "t")), "!t\n!not a function\n"),
            (7, ("reply", False, ("text", "t")), "1\n!t\n"), (7, ("denied",), "1\n!denied\n"),
        ):
            replay = noted.replay("left", trace[:k] + (event,) + trace[k + 1:])
            replay.go(1000)
            self.same((replay.result(), replay.place()), (("same",), 9))
            self.assertEqual(replay.held()[2], line)
        # A reply by which the side does more than the trace tells.
        self.differs(noted.replay("left", trace[:7] + (("reply", True, ("right", 0, "object")),) + trace[8:]), 8)

    def test_another_variable(self):
        noted = Noted().do([
            ("run", "right", (let("v", num(1)), let("t", thing()))), ("hand", "right", "v"),
            ("run", "left", (show(name("v")), ("if", ("bin", "==", name("v"), num(7)), (revoking(),), ()))),
        ])
        trace = noted.world.trace()
        for value, k in ((("int", 1), None), (("int", 2), None), (("text", "7"), None), (("int", 7), 4)):
            replay = noted.replay("left", trace[:2] + (("handed", "right", "v", value),) + trace[3:])
            if k is None:
                replay.go(1000)
                self.same(replay.result(), ("same",))
            else:
                self.differs(replay, k)

    def test_another_request(self):
        noted = Noted().do([
            ("run", "left", (let("o", thing(x=num(1))),)), ("hand", "left", "o"),
            ("run", "right", (show(get(name("o"), "x")),)),
        ])
        trace = noted.world.trace()
        # turn, end, handed, turn, request, reply, end
        for operation, k in (
            (("get", "x", ("right", 0, "object")), None), (("get", "x", NONE), None), (("get", "y", NONE), 5),
            (("has", "x"), 5), (("names",), 5), (("call", NONE, ()), 5),
        ):
            replay = noted.replay("left", trace[:4] + (("request", "right", 0, 0, operation),) + trace[5:])
            if k is None:
                replay.go(1000)
                self.same(replay.result(), ("same",))
            else:
                self.differs(replay, k)
        # At another depth the reply is the same, until it is too deep.
        for depth in (1, 19):
            replay = noted.replay("left", trace[:4] + (("request", "right", depth) + trace[4][3:],) + trace[5:])
            replay.go(1000)
            self.same(replay.result(), ("same",))
        self.differs(noted.replay("left", trace[:4] + (("request", "right", 20) + trace[4][3:],) + trace[5:]), 5)

    def test_turns_of_the_other_side_left_out(self):
        noted = Noted(*POLICIES).do(PEACE)
        trace = noted.world.trace()
        for at in range(len(trace) - 1):
            if trace[at] == ("turn", "right") and trace[at + 1] == ("end",):
                replay = noted.replay("left", trace[:at] + trace[at + 2:])
                replay.go(10 ** 6)
                self.same((replay.result(), replay.place()), (("same",), len(trace) - 2))
                self.assertTrue(replay.held() == noted.world.held("left"))

    def test_whatever_the_other_side_tells_a_replay_raises_nothing(self):
        for noted in worlds():
            trace = noted.world.trace()
            made = makers(trace)
            for side in SIDES:
                for k in range(0, len(trace), 3):
                    if made[k] != side:
                        for other in others_of(trace[k], OTHER[side], trace, k):
                            told = trace[:k] + (other,) + trace[k + 1:]
                            if stands(told):
                                replay = noted.replay(side, told)
                                replay.go(3000)
                                self.assertIn(replay.result()[0], ("same", "running", "differs"))
                                self.assertGreater(replay.place(), k)


if __name__ == "__main__":
    unittest.main()
