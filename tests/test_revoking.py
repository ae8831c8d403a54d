"""Replies and revoking (w5, w6)."""

import unittest

from building import (
    NONE, NOTHING, REVOKER, SIDES,
    ask, at_depth, attempt, back, call, do, func, get, giving, less_one, let, name, num, put, revoking, send, show,
    thing, words,
)
from leading import DONE, Led, RequestCase, refused


class ByTheHostTest(RequestCase):
    def test_once(self):
        for led, side, owner in self.pairs():
            led.made(owner, t=thing(x=num(1)))
            self.assertEqual([led.world.held(at)[3] for at in SIDES], [False, False])
            self.assertIsNone(led.world.revoke())
            self.assertEqual(led.events(), (("revoke",),))
            self.assertEqual([led.world.held(at)[3] for at in SIDES], [True, True])
            before = led.everything()
            self.assertIsNone(led.world.revoke())
            self.assertEqual(led.everything(), before)

    def test_ahead_of_all(self):
        led = Led()
        led.revoke()
        self.assertEqual(led.events(), (("revoke",),))
        self.assertEqual(led.left(do(call(REVOKER))), DONE)
        self.assertEqual(led.events(), (("turn", "left"), ("end",)))

    def test_no_operation_gets_through(self):
        for led, side, owner in self.pairs():
            led.made(owner, t=thing(x=num(1)), f=giving(num(1)))
            led.turn(side, let("o", thing(name("t"), y=num(1))))
            led.revoke()
            led.events()
            for e in (
                get(name("t"), "x"), ("has", name("t"), "x"), ("look", name("t"), "x"), ("names", name("t")),
                ("parent", name("t")), ("is_open", name("t")), call(name("f")), call(name("t")), send(name("t"), "x"),
                get(name("o"), "x"), ("has", name("o"), "x"),
            ):
                self.same(led.turn(side, do(e)), refused("revoked"), e)
                self.assertEqual(led.events(), (("turn", side), ("end",)))
            for statement in (
                put(name("t"), "x", num(1)), put(name("o"), "x", num(1)), ("drop", name("t"), "x"),
                ("fix", name("t"), "x"), ("close", name("t")), ask(name("t"), "x"),
            ):
                self.same(led.turn(side, statement), refused("revoked"), statement)
                self.assertEqual(led.events(), (("turn", side), ("end",)))
            self.assertEqual(led.world.held(side)[1], ())

    def test_what_is_no_request_goes_on(self):
        for led, side, owner in self.pairs():
            led.made(owner, t=thing(x=num(1)), f=giving(num(1)))
            led.turn(side, let("o", thing(name("t"), y=num(1))))
            led.revoke()
            led.turn(
                side, show(name("t")), show(("kind", name("f"))), show(("bin", "==", name("t"), name("t"))),
                show(get(name("o"), "y")), show(("look", name("o"), "x")), put(name("o"), "y", name("t")),
                show(("bin", "==", ("parent", name("o")), get(name("o"), "y"))), attempt(show(get(name("o"), "x"))),
            )
            self.assertEqual(led.seen(side), ["<object>", "function", "True", "1", "None", "True", "!revoked"])
            self.same(led.turn(owner, back(get(name("t"), "x"))), (True, ("int", 1)))


class ByCodeTest(RequestCase):
    def test_once(self):
        for led, side, owner in self.pairs():
            led.begin(side, show(call(REVOKER)), show(num(1)), show(call(REVOKER)))
            self.assertEqual([led.world.held(at)[3] for at in SIDES], [False, False])
            led.finish()
            self.assertEqual(led.seen(side), ["None", "1", "None"])
            self.assertEqual(led.events(), (("turn", side), ("revoke",), ("end",)))
            self.assertEqual([led.world.held(at)[3] for at in SIDES], [True, True])
            led.revoke()
            led.turn(owner, revoking())
            self.assertEqual(led.events(), (("turn", owner), ("end",)))

    def test_the_turn_goes_on(self):
        for led, side, owner in self.pairs():
            led.made(owner, t=thing(x=num(1)))
            read = show(get(name("t"), "x"))
            led.turn(side, read, revoking(), attempt(read), let("o", thing(x=num(7))), show(get(name("o"), "x")))
            self.assertEqual(led.seen(side), ["1", "!revoked", "7"])
            t = (owner, 0, "object")
            self.same(led.events(), (
                ("turn", side), ("request", side, 0, 0, ("get", "x", t)), ("reply", True, ("int", 1)), ("revoke",),
                ("end",),
            ))

    def test_within_the_arguments_of_an_operation(self):
        for statement in (
            do(call(name("f"), name("o"), call(REVOKER))), do(call(name("f"), call(REVOKER), name("o"))),
            put(name("t"), "x", call(REVOKER)), ask(name("t"), "x", call(REVOKER), name("o")),
            ask(name("t"), "x", name("o"), call(REVOKER)), do(get(("choice", call(REVOKER), num(1), name("t")), "x")),
        ):
            for led, side, owner in self.pairs():
                led.made(owner, t=thing(x=num(1)), f=func(("a", "b"), show(words("not here"))))
                led.turn(side, let("o", thing()))
                led.events()
                before = led.world.held(owner)[0]
                self.same(led.turn(side, statement), refused("revoked"), statement)
                self.assertEqual(led.events(), (("turn", side), ("revoke",), ("end",)))
                # Nothing has crossed.
                self.assertEqual(led.world.held(side)[1], ())
                self.assertEqual(led.world.held(owner)[0], before)

    def test_within_the_arguments_of_a_send(self):
        for led, side, owner in self.pairs():
            led.made(owner, t=thing(m=func(("a",), show(words("not here")))))
            self.same(led.turn(side, do(send(name("t"), "m", call(REVOKER)))), refused("revoked"))
            self.assertEqual([event[0] for event in led.events()], ["turn", "request", "reply", "revoke", "end"])
            self.assertEqual(led.seen(owner), [])

    def test_the_revoker_crosses(self):
        for led, side, owner in self.pairs():
            led.made(owner, f=func(("r",), show(("kind", name("r"))), do(call(name("r"))), show(words("behind"))))
            self.same(led.turn(side, do(call(name("f"), REVOKER))), refused("revoked"))
            self.assertEqual(led.seen(owner), ["revoker", "behind"])
            self.same(led.events(), (
                ("turn", side), ("request", side, 0, 0, ("call", NONE, (("revoker",),))), ("revoke",), ("end",),
            ))


class WhileASideWaitsTest(RequestCase):
    def test_what_is_served_runs_to_its_end(self):
        for last in (back(name("r")), ("raise", name("r")), do(num(1))):
            for led, side, owner in self.pairs():
                led.made(owner, f=func((), revoking(), show(words("served")), let("r", thing()), last))
                self.same(led.turn(side, attempt(do(call(name("f")))), show(words("asked"))), DONE)
                self.assertEqual((led.seen(side), led.seen(owner)), (["!revoked", "asked"], ["served"]))
                self.same(led.events(), (
                    ("turn", side), ("request", side, 0, 0, ("call", NONE, ())), ("revoke",), ("end",),
                ))
                # What it gives is given to nobody.
                self.assertEqual(led.world.held(owner)[1], (1,))

    def test_the_side_waits_until_it_has_ended(self):
        for led, side, owner in self.pairs():
            led.made(owner, f=func((), revoking(), *[show(num(n)) for n in range(5)]))
            led.begin(side, attempt(do(call(name("f")))))
            states = []
            while led.world.state() != "":
                if led.world.held(side)[3] and led.world.state() == owner:
                    before = led.world.steps(side)
                    led.world.go(1)
                    self.assertEqual(led.world.steps(side), before)
                else:
                    led.world.go(1)
                states.append(led.world.state())
            self.assertEqual(led.seen(owner), list("01234"))
            self.assertGreater(states.count(owner), 10)

    def test_what_is_served_has_no_end(self):
        for led, side, owner in self.pairs():
            led.made(owner, f=func((), revoking(), ("while", num(1), (do(num(1)),))))
            led.begin(side, do(call(name("f"))))
            self.assertEqual(led.world.go(3000), 3000)
            self.assertEqual(led.world.state(), owner)

    def test_other_operations(self):
        # A getter, a setter, and a getter that is the revoker itself.
        for led, side, owner in self.pairs():
            for statement in (do(get(name("t"), "g")), put(name("t"), "s", num(5)), do(get(name("t"), "r"))):
                led = Led()
                led.made(owner, t=thing(x=num(1)))
                led.turn(
                    owner, ask(name("t"), "g", func((), put(name("me"), "x", num(5)), revoking(), back(num(1)))),
                    ask(name("t"), "s", NOTHING, func(("w",), put(name("me"), "x", name("w")), revoking())),
                    ask(name("t"), "r", REVOKER), put(name("t"), "x", num(1)),
                )
                led.events()
                self.same(led.turn(side, statement), refused("revoked"))
                self.assertEqual([event[0] for event in led.events()], ["turn", "request", "revoke", "end"])
                # It was done.
                wanted = 1 if statement == do(get(name("t"), "r")) else 5
                self.same(led.turn(owner, back(get(name("t"), "x"))), (True, ("int", wanted)))

    def test_by_the_side_that_asks_while_it_serves(self):
        for led, side, owner in self.pairs():
            led.made(owner, f=func(("h",), attempt(do(call(name("h")))), show(words("served")), back(num(1))))
            self.same(led.turn(
                side, let("h", func((), revoking(), show(words("inner")), back(thing()))),
                attempt(do(call(name("f"), name("h")))), show(words("outer")),
            ), DONE)
            self.assertEqual(led.seen(side), ["inner", "!revoked", "outer"])
            self.assertEqual(led.seen(owner), ["!revoked", "served"])
            self.assertEqual([event[0] for event in led.events()], ["turn", "request", "request", "revoke", "end"])
            self.assertEqual(len(led.world.held(side)[1]), 1)

    def test_by_the_owner_while_its_own_request_is_served(self):
        # The owner asks back, and what it asks for has it revoke in the midst: three requests wait.
        for led, side, owner in self.pairs():
            led.made(owner, k=func((), revoking(), show(words("k"))))
            led.made(side, h=func((), attempt(do(call(name("k")))), show(words("h"))))
            led.made(owner, f=func((), attempt(do(call(name("h")))), show(words("f"))))
            self.same(led.turn(side, attempt(do(call(name("f")))), show(words("end"))), DONE)
            self.assertEqual(led.seen(side), ["!revoked", "h", "!revoked", "end"])
            self.assertEqual(led.seen(owner), ["k", "!revoked", "f"])
            self.assertEqual([event[0] for event in led.events()], ["turn"] + ["request"] * 3 + ["revoke", "end"])

    def test_not_caught_it_ends_each_call_on_its_way(self):
        def asking(f, text):
            deeper = ("if", name("n"), (back(call(name(f), less_one("n"))),), ())
            return func(("n",), deeper, revoking(), show(words(text)))

        for many in (1, 2, 7, 8):
            for led, side, owner in self.pairs():
                led.made(owner, pong=asking("ping", "pong"))
                led.made(side, ping=asking("pong", "ping"))
                self.same(led.turn(side, do(call(name("ping"), num(many)))), refused("revoked"))
                self.assertEqual((led.seen(side), led.seen(owner)), (["ping"], []) if many % 2 == 0 else ([], ["pong"]))
                words_of = [event[0] for event in led.events()]
                self.assertEqual(words_of, ["turn"] + ["request"] * many + ["revoke", "end"])

    def test_requests_behind_it_make_no_event(self):
        for led, side, owner in self.pairs():
            led.made(side, t=thing(x=num(1)))
            led.made(owner, f=func((), revoking(), attempt(do(get(name("t"), "x"))), revoking(), back(num(1))))
            led.turn(side, attempt(do(call(name("f")))), attempt(do(call(name("f")))), revoking())
            self.assertEqual((led.seen(side), led.seen(owner)), (["!revoked", "!revoked"], ["!revoked"]))
            self.assertEqual([event[0] for event in led.events()], ["turn", "request", "revoke", "end"])

    def test_depth_behind_it_is_what_it_was(self):
        for led, side, owner in self.pairs():
            led.made(owner, f=func((), revoking(), ("raise", num(1))))
            led.turn(
                side, let("deep", at_depth("deep", back(words("end")))),
                let("probe", at_depth("probe", attempt(do(call(name("f")))), show(call(name("deep"), num(15))),
                                      attempt(show(call(name("deep"), num(16)))))),
                do(call(name("probe"), num(5))),
            )
            self.assertEqual(led.seen(side), ["!revoked", "end", "!too deep"])
            # And it is so for the owner.
            led.turn(owner, let("deep", at_depth("deep", back(words("end")))), show(call(name("deep"), num(20))),
                     attempt(show(call(name("deep"), num(21)))))
            self.assertEqual(led.seen(owner), ["end", "!too deep"])

    def test_later_turns(self):
        for led, side, owner in self.pairs():
            led.made(owner, f=func((), revoking()), t=thing(x=num(1)))
            led.turn(side, do(call(name("f"))))
            led.events()
            for at in SIDES:
                self.same(led.turn(at, let("x", num(1)), back(name("x"))), (True, ("int", 1)))
            self.same(led.turn(owner, back(get(name("t"), "x"))), (True, ("int", 1)))
            self.same(led.turn(side, back(get(name("t"), "x"))), refused("revoked"))
            self.assertEqual([event[0] for event in led.events()], ["turn", "end"] * 4)


class RepliesTest(RequestCase):
    def test_a_reply_is_given_or_raised_where_it_was_asked(self):
        for led, side, owner in self.pairs():
            led.made(owner, t=thing(x=num(5)), bad=func((), ("raise", words("bad"))))
            self.same(led.turn(side, back(("bin", "+", get(name("t"), "x"), num(1)))), (True, ("int", 6)))
            self.same(led.turn(side, attempt(do(call(name("bad"))), show(words("not here"))), back(num(1))),
                      (True, ("int", 1)))
            self.assertEqual(led.seen(side), ["!bad"])
            self.assertEqual([event[1] for event in led.events() if event[0] == "reply"], [True, False])

    def test_what_is_given_crosses(self):
        # In the order of the replies, though what is thrown away crosses, too.
        for led, side, owner in self.pairs():
            led.made(owner, f=func(("n",), back(("choice", name("n"), name("p"), name("q")))))
            led.turn(owner, let("p", thing()), let("q", giving(num(1))))
            led.events()
            led.turn(side, do(call(name("f"), num(0))), do(call(name("f"), num(1))), do(call(name("f"), num(0))))
            told = [event[2] for event in led.events() if event[0] == "reply"]
            self.assertEqual(told, [(owner, 1, "function"), (owner, 2, "object"), (owner, 1, "function")])

    def test_a_raise_through_both_sides(self):
        for led, side, owner in self.pairs():
            led.made(side, h=func((), ("raise", name("h"))))
            led.made(owner, f=func((), do(call(name("h"))), show(words("not here"))))
            handler = (back(("bin", "==", name("e"), name("h"))),)
            self.same(led.turn(side, ("try", (do(call(name("f"))),), "e", handler)), (True, ("bool", True)))
            self.assertEqual(led.seen(owner), [])
            told = [event for event in led.events() if event[0] == "reply"]
            self.assertEqual(told, [("reply", False, (side, 0, "function"))] * 2)

    def test_a_return_does_not_pass_a_call_of_the_other_side(self):
        for led, side, owner in self.pairs():
            led.made(side, h=giving(num(1)))
            led.made(owner, f=func((), show(call(name("h"))), back(num(2))))
            led.turn(side, show(call(name("f"))), show(words("end")))
            self.assertEqual((led.seen(side), led.seen(owner)), (["2", "end"], ["1"]))


if __name__ == "__main__":
    unittest.main()
