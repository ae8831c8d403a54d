"""Operations on each kind of value, and requests across the membrane with their events (m2, m3, w2 to w4)."""

import unittest

from building import (
    NONE, NOTHING, REVOKER, SIDES, TRUE,
    ask, at_depth, attempt, back, call, do, func, get, giving, less_one, let, name, num, put, revoking, send, show,
    thing, words,
)
from leading import DONE, Led, RequestCase, refused


def deep(many, *statements):
    """Statements that run the others that many calls deep."""
    if many == 0:
        return statements
    return (let("deep", at_depth("deep", *statements)), back(call(name("deep"), num(many))))


def statements_on(o):
    """Each operation as a statement on what the expression o gives, and its word."""
    return (
        (do(get(o, "x")), "get"), (put(o, "x", num(1)), "put"), (do(("has", o, "x")), "has"),
        (("drop", o, "x"), "drop"), (do(("look", o, "x")), "look"), (("fix", o, "x"), "fix"),
        (ask(o, "x", NOTHING, NOTHING), "define"), (do(("names", o)), "names"), (do(("parent", o)), "parent"),
        (("close", o), "close"), (do(("is_open", o)), "is_open"), (do(call(o, num(1))), "call"),
    )


class OperationTest(RequestCase):
    """m2: the operations on values of each kind."""

    def test_on_what_is_no_object(self):
        for e in (NOTHING, TRUE, num(0), num(5), words(""), words("t")):
            for side in SIDES:
                for statement, word in statements_on(e):
                    led = Led()
                    text = "not a function" if word == "call" else "not an object"
                    self.same(led.turn(side, statement), refused(text), statement)
                    self.assertEqual(led.events(), (("turn", side), ("end",)))
                self.same(Led().turn(side, do(send(e, "x"))), refused("not an object"))

    def test_on_the_revoker(self):
        for side in SIDES:
            for statement, word in statements_on(REVOKER):
                led = Led()
                end = led.turn(side, statement)
                if word == "call":
                    self.same(end, DONE)
                    self.assertEqual(led.events(), (("turn", side), ("revoke",), ("end",)))
                else:
                    self.same(end, refused("not an object"))
                    self.assertEqual(led.events(), (("turn", side), ("end",)))
            self.same(Led().turn(side, back(call(REVOKER, num(1), num(2)))), DONE)

    def test_on_an_object_of_its_own(self):
        # On an object with an x, on one without, on a func of one parameter: what is refused, or None.
        for statement, word in statements_on(name("o")):
            for made, text in (
                (thing(x=num(1)), "not a function" if word == "call" else None),
                (thing(), {"get": "no such name", "drop": "no such name", "fix": "no such name",
                           "call": "not a function"}.get(word)),
                (func(("a",), do(num(1))), "no such name" if word in ("get", "drop", "fix") else None),
            ):
                for side in SIDES:
                    led = Led()
                    led.turn(side, let("o", made))
                    led.events()
                    self.same(led.turn(side, statement), refused(text) if text else DONE)
                    self.assertEqual(led.events(), (("turn", side), ("end",)))

    def test_on_a_far(self):
        # The same, and each is a request with a reply.
        for made, f in ((thing(x=num(1)), False), (thing(), False), (func(("a",), do(num(1))), True)):
            for statement, word in statements_on(name("o")):
                for led, side, owner in self.pairs():
                    led.turn(owner, let("o", made))
                    own = led.turn(owner, statement)
                    led.turn(owner, let("o", made))
                    led.hand(owner, "o")
                    led.events()
                    self.same(led.turn(side, statement), own)
                    told = led.events()
                    self.assertEqual([event[0] for event in told], ["turn", "request", "reply", "end"])
                    self.assertEqual(told[1][4][0], word)

    def test_where_an_outcome_goes_on(self):
        # With a parent of each kind, and getters and setters of each kind.
        for led, side, owner in self.pairs():
            led.made(owner, t=thing(x=num(5)), g=func((), back(get(name("me"), "y"))), s=func(("w",), put(
                name("me"), "y", name("w"))), r=REVOKER)
            led.turn(
                side, let("own", thing(x=num(6))), let("h", func((), back(words("own")))),
                let("o", thing(name("own"))), let("p", thing(name("t"))), let("q", thing(name("o"), y=num(1))),
                ask(name("q"), "g", name("h"), NOTHING), ask(name("q"), "f", name("g"), name("s")),
                ask(name("q"), "n", num(5), words("t")), ask(name("q"), "b", name("own"), name("t")),
            )
            led.events()
            for e, end in (
                (get(name("o"), "x"), (True, ("int", 6))), (get(name("p"), "x"), (True, ("int", 5))),
                (get(name("q"), "x"), (True, ("int", 6))), (get(name("q"), "g"), (True, ("text", "own"))),
                (get(name("q"), "f"), (True, ("int", 1))), (get(name("q"), "n"), refused("not a function")),
                (get(name("q"), "b"), refused("not a function")), (("has", name("p"), "x"), (True, ("bool", True))),
                (("has", name("p"), "y"), (True, ("bool", False))), (get(name("p"), "y"), refused("no such name")),
            ):
                self.same(led.turn(side, back(e)), end, e)
            for statement, end in (
                (put(name("q"), "f", num(2)), DONE), (put(name("q"), "n", num(1)), refused("not a function")),
                (put(name("q"), "b", num(1)), refused("not a function")),
                (put(name("q"), "g", num(1)), refused("no such name")), (put(name("p"), "x", num(8)), DONE),
            ):
                self.same(led.turn(side, statement), end, statement)
            self.same(led.turn(side, back(get(name("q"), "y"))), (True, ("int", 2)))
            self.same(led.turn(side, back(get(name("p"), "x"))), (True, ("int", 8)))
            self.same(led.turn(owner, back(get(name("t"), "x"))), (True, ("int", 5)))
            # A getter that is the revoker, of the object itself.
            self.same(led.turn(side, ask(name("q"), "r", name("r"), NOTHING), back(get(name("q"), "r"))), DONE)
            self.assertEqual(led.world.trace()[-2:], (("revoke",), ("end",)))


class CallTest(RequestCase):
    """m3: entering a function, and depth."""

    def test_a_scope_at_the_end_of_the_heap(self):
        for side in SIDES:
            led = Led()
            led.turn(side, let("f", func(("a", "b"), let("c", num(3)))), let("o", thing(f=name("f"))),
                     do(send(name("o"), "f", num(1), num(2))))
            told = (("a", ("int", 1)), ("b", ("int", 2)), ("me", ("ref", 2)), ("c", ("int", 3)))
            self.same(led.world.held(side)[0][3:], (("scope", told, 0),))

    def test_depth_20_in_calls(self):
        for side in SIDES:
            for many, end in ((19, (True, ("text", "end"))), (20, (True, ("text", "end"))), (21, refused("too deep"))):
                led = Led()
                self.same(led.turn(side, *deep(many, back(words("end")))), end)
                # Behind it, whatever its end, the depth is what it was.
                self.same(led.turn(side, *deep(20, back(words("end")))), (True, ("text", "end")))

    def test_too_deep_ahead_of_wrong_number(self):
        for side in SIDES:
            for many, text in ((19, "wrong number"), (20, "too deep"), (0, "wrong number")):
                led = Led()
                self.same(led.turn(side, let("f", giving(num(1))), *deep(many, do(call(name("f"), num(1))))),
                          refused(text))
                # A refused call makes no scope.
                scopes = [made for made in led.world.held(side)[0] if made[0] == "scope"]
                self.assertEqual(len(scopes), 1 + many)

    def test_depth_of_requests_is_counted_over_both_sides(self):
        # A request is one deeper for the owner, and a call in it one more.
        for many, end in ((18, (True, ("text", "end"))), (19, refused("too deep"))):
            for led, side, owner in self.pairs():
                led.made(owner, f=giving(words("end")))
                self.same(led.turn(side, *deep(many, back(call(name("f"))))), end)
                told = [event for event in led.events() if event[0] in ("request", "reply")]
                self.same(told[0][:4], ("request", side, many, 0))

    def test_a_request_and_no_call(self):
        for many, end in ((19, (True, ("int", 1))), (20, refused("too deep"))):
            for led, side, owner in self.pairs():
                led.made(owner, t=thing(x=num(1)))
                self.same(led.turn(side, *deep(many, back(get(name("t"), "x")))), end)

    def test_depth_mixed(self):
        # f of the owner calls back what it is passed: request, call, request, call.
        for many, end in ((16, (True, ("text", "end"))), (17, refused("too deep"))):
            for led, side, owner in self.pairs():
                led.made(owner, f=func(("g",), back(call(name("g")))))
                self.same(
                    led.turn(side, let("g", giving(words("end"))), *deep(many, back(call(name("f"), name("g"))))), end,
                )
                told = [event[1:3] for event in led.events() if event[0] == "request"]
                self.assertEqual(told, [(side, many), (owner, many + 2)])

    def test_depths_of_calls_back_and_forth(self):
        def turning(f):
            """A function of n that calls f with one less."""
            return func(("n",), ("if", name("n"), (back(call(name(f), less_one("n"))),), ()), back(words("end")))

        for led, side, owner in self.pairs():
            led.made(owner, pong=turning("ping"))
            led.made(side, ping=turning("pong"))
            self.same(led.turn(side, back(call(name("ping"), num(9)))), (True, ("text", "end")))
            told = [event[1:3] for event in led.events() if event[0] == "request"]
            self.assertEqual(told, [((side, owner)[n % 2], 2 * n + 1) for n in range(9)])
            self.same(led.turn(side, back(call(name("ping"), num(10)))), refused("too deep"))
            told = [event for event in led.events() if event[0] in ("request", "reply")]
            self.assertEqual(told[9][:3], ("request", owner, 19))
            self.assertEqual(told[10:], [("reply", False, ("text", "too deep"))] * 10)
            # And behind it all is as it was.
            self.same(led.turn(side, back(call(name("ping"), num(9)))), (True, ("text", "end")))
            self.same(led.turn(owner, back(call(name("pong"), num(9)))), (True, ("text", "end")))

    def test_depth_behind_calls_and_requests_is_what_it_was(self):
        for ends in (
            do(call(name("f"))), attempt(do(call(name("f"), num(1)))), attempt(do(call(name("bad")))),
            do(get(name("t"), "x")), attempt(do(get(name("t"), "zz"))), do(call(name("g"), name("own"))),
            attempt(do(call(name("g"), name("ownbad")))), attempt(do(call(name("own"), num(1)))),
            attempt(do(call(name("ownbad")))), attempt(do(call(name("deep"), num(40)))), put(name("t"), "s", num(1)),
            attempt(do(call(name("no")))), do(get(name("t"), "own")), do(("names", name("t"))),
        ):
            for led, side, owner in self.pairs(owner=(("only", 4, ("nocall",)),)):
                led.made(
                    owner, f=giving(num(1)), bad=func((), ("raise", words("bad"))),
                    g=func(("h",), back(call(name("h")))),
                    t=thing(x=num(1)), no=giving(num(1)),
                )
                led.made(side, own=giving(num(1)), ownbad=func((), ("raise", words("bad"))))
                led.turn(owner, ask(name("t"), "s", NOTHING, func(("w",), do(num(1)))),
                         ask(name("t"), "own", name("own")))
                led.events()
                led.turn(
                    side, let("deep", at_depth("deep", do(num(1)))),
                    let("probe", at_depth("probe", ends, do(get(name("t"), "x")), ends, do(get(name("t"), "x")))),
                    do(call(name("probe"), num(7))),
                )
                told = [event[2] for event in led.events() if event[0] == "request" and event[4][:2] == ("get", "x")]
                self.assertEqual(len(told), 4 if ends == do(get(name("t"), "x")) else 2, ends)
                self.assertEqual(set(told), {7}, ends)

    def test_depth_of_the_owner_while_it_serves_is_told_by_the_request(self):
        # The owner asks back at the depth of its operation, and is where it was behind it.
        for led, side, owner in self.pairs():
            led.made(side, t=thing(x=num(1)))
            led.made(owner, f=func((), do(get(name("t"), "x")), do(call(func((), do(get(name("t"), "x")))))))
            led.turn(side, do(call(name("f"))), *deep(3, do(call(name("f")))))
            told = [event[1:3] for event in led.events() if event[0] == "request"]
            self.assertEqual(told, [(side, 0), (owner, 2), (owner, 3), (side, 3), (owner, 5), (owner, 6)])
            led.turn(owner, do(get(name("t"), "x")))
            self.assertEqual(led.events()[1][:3], ("request", owner, 0))


# What is written for a value of each kind, and what stands for it in an event.
PLAIN_VALUES = (NOTHING, TRUE, num(-5), words("a\nb"), words(""), REVOKER)


class EventTest(RequestCase):
    """w2 to w4: the events of the twelve operations, with values of each kind in them."""

    def crossing(self, led, side, owner):
        """Expressions for the side that asks, in turn with their neutral values, of new and old objects of both."""
        led.made(owner, t=thing(x=num(1)), f=func(("a",), back(name("a"))))
        led.made(side, old=giving(num(1)))
        led.turn(side, let("new", thing()), let("newf", giving(num(1))))
        led.events()
        plain = [(e, e[1]) for e in PLAIN_VALUES]
        return plain + [
            (name("t"), (owner, 0, "object")), (name("f"), (owner, 1, "function")),
            (name("old"), (side, 0, "function")), (name("new"), (side, 1, "object")),
            (name("newf"), (side, 2, "function")), (name("new"), (side, 1, "object")),
        ]

    def test_operations_without_values(self):
        for statement, word in statements_on(name("t")):
            if word in ("put", "define", "get", "call"):
                continue
            for led, side, owner in self.pairs():
                led.made(owner, t=thing(x=num(1)))
                self.same(led.turn(side, statement), DONE)
                operation = (word, "x") if len(statement) == 3 or len(statement[1]) == 3 else (word,)
                reply = {
                    "has": ("bool", True), "look": ("text", "data"), "names": ("text", "x"), "is_open": ("bool", True),
                }.get(word, NONE)
                self.same(led.events(), (
                    ("turn", side), ("request", side, 0, 0, operation), ("reply", True, reply), ("end",),
                ))

    def test_put(self):
        for led, side, owner in self.pairs():
            for e, neutral in self.crossing(led, side, owner):
                self.same(led.turn(side, put(name("t"), "y", e)), DONE)
                self.same(led.events()[1:-1], (
                    ("request", side, 0, 0, ("put", "y", neutral, (owner, 0, "object"))), ("reply", True, NONE),
                ))

    def test_get(self):
        for led, side, owner in self.pairs():
            for e, neutral in self.crossing(led, side, owner):
                led.turn(side, put(name("t"), "y", e))
                led.events()
                self.same(led.turn(side, back(("bin", "==", get(name("t"), "y"), e))), (True, ("bool", True)))
                self.same(led.events()[1:-1], (
                    ("request", side, 0, 0, ("get", "y", (owner, 0, "object"))), ("reply", True, neutral),
                ))

    def test_get_with_another_receiver(self):
        # What stands as a receiver is the first object that was asked: of the one side or of the other.
        for led, side, owner in self.pairs():
            led.made(owner, t=thing(x=num(1)))
            led.turn(side, let("o", thing(name("t"))), do(get(name("o"), "x")), do(get(name("o"), "x")),
                     put(name("o"), "x", num(2)))
            receiver = (side, 0, "object")
            self.same(led.events()[1:-1], (
                ("request", side, 0, 0, ("get", "x", receiver)), ("reply", True, ("int", 1)),
                ("request", side, 0, 0, ("get", "x", receiver)), ("reply", True, ("int", 1)),
                ("request", side, 0, 0, ("put", "x", ("int", 2), receiver)),
                ("request", owner, 1, 0, ("define", "x", ("data", ("int", 2), False))), ("reply", True, NONE),
                ("reply", True, NONE),
            ))

    def test_define_of_data_and_ask(self):
        for led, side, owner in self.pairs():
            for e, neutral in self.crossing(led, side, owner):
                for x, getter, setter, member in (
                    ("y", e, NOTHING, ("ask", neutral, NONE, False)),
                    ("z", num(1), e, ("ask", ("int", 1), neutral, False)),
                    ("y", e, e, ("ask", neutral, neutral, False)),
                ):
                    self.same(led.turn(side, ask(name("t"), x, getter, setter)), DONE)
                    self.same(led.events()[1:-1], (
                        ("request", side, 0, 0, ("define", x, member)), ("reply", True, NONE),
                    ))

    def test_call(self):
        for led, side, owner in self.pairs():
            for e, neutral in self.crossing(led, side, owner):
                self.same(led.turn(side, back(("bin", "==", call(name("f"), e), e))), (True, ("bool", True)))
                self.same(led.events()[1:-1], (
                    ("request", side, 0, 1, ("call", NONE, (neutral,))), ("reply", True, neutral),
                ))

    def test_calls_with_many_arguments(self):
        for many in range(5):
            for led, side, owner in self.pairs():
                led.made(owner, f=func(("a", "b", "c", "d")[:many], do(num(1))))
                made = [name("o")] * many
                self.same(led.turn(side, let("o", thing()), do(call(name("f"), *made))), DONE)
                self.same(led.events()[1], ("request", side, 0, 0, ("call", NONE, ((side, 0, "object"),) * many)))

    def test_send(self):
        for led, side, owner in self.pairs():
            led.made(owner, t=thing(m=func(("a",), back(name("me")))))
            self.same(led.turn(side, let("o", thing(name("t"))), back(send(name("t"), "m", num(1)))),
                      (True, ("far", 0, "object")))
            t, m = (owner, 0, "object"), (owner, 1, "function")
            self.same(led.events()[1:-1], (
                ("request", side, 0, 0, ("get", "m", t)), ("reply", True, m),
                ("request", side, 0, 1, ("call", t, (("int", 1),))), ("reply", True, t),
            ))
            self.same(led.turn(side, back(send(name("o"), "m", num(1)))), (True, ("ref", 1)))
            o = (side, 0, "object")
            self.same(led.events()[1:-1], (
                ("request", side, 0, 0, ("get", "m", o)), ("reply", True, m),
                ("request", side, 0, 1, ("call", o, (("int", 1),))), ("reply", True, o),
            ))

    def test_what_is_raised(self):
        for led, side, owner in self.pairs():
            for e, neutral in self.crossing(led, side, owner):
                led.turn(owner, let("bad", func(("a",), ("raise", name("a")))))
                led.hand(owner, "bad")
                led.events()
                caught = ("try", (do(call(name("bad"), e)),), "v", (back(("bin", "==", name("v"), e)),))
                self.same(led.turn(side, caught), (True, ("bool", True)))
                self.same(led.events()[-2:], (("reply", False, neutral), ("end",)))

    def test_what_is_refused(self):
        for statement, text in (
            (do(get(name("t"), "zz")), "no such name"), (("drop", name("t"), "zz"), "no such name"),
            (("fix", name("t"), "zz"), "no such name"), (put(name("t"), "x", num(1)), "fixed"),
            (("drop", name("t"), "x"), "fixed"), (ask(name("t"), "x"), "fixed"), (ask(name("t"), "y"), "closed"),
            (do(call(name("t"))), "not a function"), (do(call(name("f"))), "wrong number"),
        ):
            for led, side, owner in self.pairs():
                led.made(owner, t=thing(x=num(1)), f=func(("a",), do(num(1))))
                led.turn(owner, ("fix", name("t"), "x"), ("close", name("t")))
                led.events()
                self.same(led.turn(side, statement), refused(text))
                self.same(led.events()[2:], (("reply", False, ("text", text)), ("end",)))

    def test_what_the_owner_does_with_the_operation(self):
        # It is done on the object itself.
        for led, side, owner in self.pairs():
            led.made(owner, t=thing(x=num(1), y=num(2)))
            led.made(side, o=thing())
            led.turn(side, put(name("t"), "x", name("o")), ("drop", name("t"), "y"), put(name("t"), "z", name("t")),
                     ask(name("t"), "w", name("o"), NOTHING), ("fix", name("t"), "z"), ("close", name("t")))
            members = (
                ("x", ("data", ("far", 0, "object"), False)), ("z", ("data", ("ref", 1), True)),
                ("w", ("ask", ("far", 0, "object"), NONE, False)),
            )
            self.same(led.world.held(owner)[0][1], ("object", members, NONE, False))

    def test_getters_and_setters_across(self):
        for led, side, owner in self.pairs():
            led.made(owner, t=thing())
            led.turn(owner, ask(name("t"), "x", func((), back(name("me"))), func(("w",), ("raise", name("w")))))
            led.events()
            t = (owner, 0, "object")
            self.same(led.turn(side, back(get(name("t"), "x"))), (True, ("far", 0, "object")))
            self.same(led.events()[1:-1], (("request", side, 0, 0, ("get", "x", t)), ("reply", True, t)))
            self.same(led.turn(side, put(name("t"), "x", num(3))), (False, ("int", 3)))
            self.same(led.events()[1:-1], (
                ("request", side, 0, 0, ("put", "x", ("int", 3), t)), ("reply", False, ("int", 3)),
            ))
            # A getter of the side that asks: it is asked back.
            led.turn(side, let("g", giving(num(4))), ask(name("t"), "y", name("g"), name("g")))
            led.events()
            g = (side, 0, "function")
            self.same(led.turn(side, back(get(name("t"), "y"))), (True, ("int", 4)))
            self.same(led.events()[1:-1], (
                ("request", side, 0, 0, ("get", "y", t)), ("request", owner, 1, 0, ("call", t, ())),
                ("reply", True, ("int", 4)), ("reply", True, ("int", 4)),
            ))
            self.same(led.turn(side, put(name("t"), "y", name("g"))), refused("wrong number"))
            self.same(led.events()[1:-1], (
                ("request", side, 0, 0, ("put", "y", g, t)), ("request", owner, 1, 0, ("call", t, (g,))),
                ("reply", False, ("text", "wrong number")), ("reply", False, ("text", "wrong number")),
            ))

    def test_what_goes_on_with_use_false_gives_none(self):
        # The end of the setter crosses between the sides, but it is not the end of the put.
        for led, side, owner in self.pairs():
            led.made(owner, t=thing())
            made = (let("r", thing()), let("s", func(("w",), back(name("r")))))
            led.turn(side, *made, ask(name("t"), "x", NOTHING, name("s")))
            led.events()
            self.same(led.turn(side, put(name("t"), "x", num(1))), DONE)
            self.same(led.events()[2:-1], (
                ("request", owner, 1, 0, ("call", (owner, 0, "object"), (("int", 1),))),
                ("reply", True, (side, 1, "object")), ("reply", True, NONE),
            ))


class CrossingTest(RequestCase):
    """w2: numbers in the order of first crossing, and what crossed comes back as itself."""

    def test_numbers_in_the_order_of_first_crossing(self):
        for led, side, owner in self.pairs():
            made = (let("a", thing()), let("b", giving(num(1))), let("c", thing(z=name("a"))), let("d", thing()))
            led.turn(owner, *made)
            led.hand(owner, "c", "a", "c", "b")
            told = [event[3] for event in led.events()[2:]]
            self.same(told, [(owner, 0, "object"), (owner, 1, "object"), (owner, 0, "object"), (owner, 2, "function")])
            self.assertEqual(led.world.held(owner)[1], (3, 1, 2))
            self.assertEqual(led.world.held(side)[1], ())
            # Numbers of either side are of their own.
            led.turn(side, let("e", thing()), do(call(name("b"), name("e"), name("c"))))
            self.assertEqual(led.events()[1][4], ("call", NONE, ((side, 0, "object"), (owner, 0, "object"))))
            self.assertEqual(led.world.held(side)[1], (1,))

    def test_values_in_the_order_in_which_they_stand(self):
        for statement, names in (
            (do(call(name("f"), name("p"), name("o"), name("p"), name("q"))), ("p", "o", "q")),
            (do(send(name("h"), "f", name("q"), name("p"), name("o"), num(1))), ("h", "q", "p", "o")),
            (ask(name("t"), "y", name("q"), name("o")), ("q", "o")),
            (put(name("h"), "z", name("q")), ("q", "h")),
        ):
            for led, side, owner in self.pairs():
                led.made(owner, t=thing(), f=func(("a", "b", "c", "d"), do(num(1))))
                made = (let("o", thing()), let("p", thing()), let("q", thing()))
                led.turn(side, *made, let("h", thing(name("t"), f=name("f"))))
                self.same(led.turn(side, statement), DONE)
                told = led.variables(side)
                self.assertEqual(led.world.held(side)[1], tuple(told[x][1] for x in names), statement)

    def test_what_crossed_comes_back_as_itself(self):
        for led, side, owner in self.pairs():
            led.made(owner, t=thing(), f=func(("a",), put(name("t"), "x", name("a")), back(name("a"))))
            led.turn(side, let("o", thing()), let("p", call(name("f"), name("o"))), let("q", get(name("t"), "x")))
            told = led.variables(side)
            self.assertEqual((told["o"], told["p"], told["q"]), (("ref", 1),) * 3)
            # And so it does for the owner.
            self.assertEqual(led.world.held(owner)[0][1][1], (("x", ("data", ("far", 0, "object"), False)),))
            led.turn(side, let("r", call(name("f"), name("t"))), put(name("t"), "y", name("f")))
            self.assertEqual(led.variables(side)["r"], ("far", 0, "object"))
            self.assertEqual(dict(led.world.held(owner)[0][1][1])["y"], ("data", ("ref", 2), False))
            self.assertEqual(led.world.held(side)[1], (1,))
            self.assertEqual(led.world.held(owner)[1], (1, 2))

    def test_handed_to_and_fro(self):
        for led, side, owner in self.pairs():
            led.made(owner, t=thing())
            led.turn(side, let("u", name("t")))
            led.hand(side, "u", "t")
            told = [event for event in led.events() if event[0] == "handed"]
            self.same(told, [("handed", side, x, (owner, 0, "object")) for x in ("u", "t")])
            told = led.variables(owner)
            self.assertEqual((told["t"], told["u"]), (("ref", 1), ("ref", 1)))

    def test_a_parent_across(self):
        for led, side, owner in self.pairs():
            led.made(owner, t=thing())
            led.made(side, o=thing(name("t")))
            led.turn(owner, let("p", ("parent", name("o"))), let("q", thing(name("o"))))
            self.same(led.events()[1:-1], (
                ("request", owner, 0, 0, ("parent",)), ("reply", True, (owner, 0, "object")),
            ))
            self.assertEqual(led.variables(owner)["p"], ("ref", 1))
            self.assertEqual(led.world.held(owner)[0][2], ("object", (), ("far", 0, "object"), True))

    def test_functions_of_each_side_in_the_others_heap(self):
        for led, side, owner in self.pairs():
            led.made(owner, f=func((), let("z", num(1))))
            before = len(led.world.held(side)[0])
            led.turn(side, do(call(name("f"))))
            self.assertEqual(len(led.world.held(side)[0]), before)
            self.same(led.world.held(owner)[0][-1], ("scope", (("me", NONE), ("z", ("int", 1))), 0))


class HandTest(RequestCase):
    """w8."""

    def test_values_of_every_kind(self):
        for led, side, owner in self.pairs():
            for e in PLAIN_VALUES:
                led.turn(owner, let("x", e))
                led.events()
                self.assertIs(led.world.hand(owner, "x"), True)
                self.same(led.events(), (("handed", owner, "x", e[1]),))
                self.same(led.variables(side)["x"], e[1])
            led.turn(owner, let("x", thing()), let("f", giving(num(1))))
            led.events()
            led.hand(owner, "x", "f")
            self.same(led.events(), (
                ("handed", owner, "x", (owner, 0, "object")), ("handed", owner, "f", (owner, 1, "function")),
            ))
            self.same(led.variables(side), {"me": NONE, "x": ("far", 0, "object"), "f": ("far", 1, "function")})

    def test_by_let(self):
        for led, side, owner in self.pairs():
            led.turn(side, let("b", num(1)), let("c", num(2)))
            led.turn(owner, let("c", num(3)), let("a", num(4)), let("b", num(5)))
            led.hand(owner, "b", "a", "me")
            told = (("me", NONE), ("b", ("int", 5)), ("c", ("int", 2)), ("a", ("int", 4)))
            self.same(led.world.held(side)[0][0], ("scope", told, -1))
            # The giver keeps it.
            self.assertEqual(led.variables(owner)["b"], ("int", 5))

    def test_a_name_that_is_not_there(self):
        for led, side, owner in self.pairs():
            led.turn(side, let("x", thing()))
            led.turn(owner, do(call(func(("y",), let("z", num(1))), num(2))))
            before = led.everything()
            for x in ("x", "y", "z"):
                self.assertIs(led.world.hand(owner, x), False)
            self.assertEqual(led.everything(), before)

    def test_behind_revoking(self):
        for by_code in (False, True):
            for led, side, owner in self.pairs():
                led.turn(owner, let("x", thing()), let("y", num(1)))
                if by_code:
                    led.turn(side, revoking())
                else:
                    led.revoke()
                before = led.everything()
                for x in ("x", "y", "zz"):
                    self.assertIs(led.world.hand(owner, x), False)
                self.assertEqual(led.everything(), before)

    def test_twice(self):
        for led, side, owner in self.pairs():
            led.turn(owner, let("x", thing()))
            led.events()
            for _ in range(2):
                self.assertIs(led.world.hand(owner, "x"), True)
                self.same(led.events(), (("handed", owner, "x", (owner, 0, "object")),))
            # Back as well: it is what it was.
            self.assertIs(led.world.hand(side, "x"), True)
            self.same(led.events(), (("handed", side, "x", (owner, 0, "object")),))
            self.assertEqual(led.variables(owner)["x"], ("ref", 1))
            self.assertEqual(led.world.held(side)[1], ())

    def test_what_a_policy_says_is_of_no_matter(self):
        policy = (("hide", "x"), ("readonly",), ("nocall",))
        for led, side, owner in self.pairs(policy, policy):
            led.turn(owner, let("x", thing()))
            self.assertIs(led.world.hand(owner, "x"), True)


class PartsTest(RequestCase):
    """w4, (1) to (6), each ahead of the next one."""

    OPERATIONS = statements_on(name("t"))

    def prepared(self, policy=()):
        for led, side, owner in self.pairs(owner=policy):
            led.made(owner, t=thing(x=num(1), y=num(2)), f=func((), show(words("done"))))
            led.turn(side, let("o", thing()), let("p", thing(name("t"))))
            led.events()
            yield led, side, owner

    def test_1_revoked_without_an_event(self):
        for policy in ((), (("hide", "x"), ("readonly",), ("nocall",))):
            more = ((put(name("t"), "z", name("o")), "put"), (do(call(name("f"))), "call"))
            for statement, _ in self.OPERATIONS + more:
                for many in (0, 3, 20):
                    for led, side, owner in self.prepared(policy):
                        led.revoke()
                        before = led.world.held(owner), led.world.held(side)[1]
                        self.same(led.turn(side, *deep(many, statement)), refused("revoked"))
                        self.same(led.events(), (("revoke",), ("turn", side), ("end",)))
                        self.assertEqual((led.world.held(owner), led.world.held(side)[1]), before)

    def test_3_denied_behind_crossing(self):
        for policy, statement, operation in (
            ((("protect", "z"),), put(name("t"), "z", name("o")), ("put", "z", "o", "t")),
            ((("hide", "z"),), put(name("t"), "z", name("o")), ("put", "z", "o", "t")),
            ((("only", 0, ("readonly",)),), put(name("t"), "x", name("o")), ("put", "x", "o", "t")),
            ((("readonly",),), ("drop", name("t"), "x"), ("drop", "x")),
            ((("protect", "x"),), ("drop", name("t"), "x"), ("drop", "x")),
            ((("hide", "x"),), ("fix", name("t"), "x"), ("fix", "x")),
            ((("protect", "x"),), ask(name("t"), "x", NOTHING, name("o")), ("define", "x", ("ask", NONE, "o", False))),
            ((("readonly",),), ("close", name("t")), ("close",)),
            ((("nocall",),), do(call(name("t"), name("o"))), ("call", NONE, ("o",))),
        ):
            for many in (0, 5, 20):
                for led, side, owner in self.prepared(policy):
                    o, t = (side, 0, "object"), (owner, 0, "object")
                    before = led.world.held(owner)
                    self.same(led.turn(side, *deep(many, statement)), refused("denied"))
                    told = replaced(operation, {"o": o, "t": t})
                    self.same(led.events()[1:-1], (("request", side, many, 0, told), ("denied",)))
                    self.assertEqual(led.world.held(owner), before)

    def test_3_an_answer_is_the_reply(self):
        for many in (0, 20):
            for e, word, ok, value in (
                (get(name("t"), "x"), ("get", "x", "t"), False, ("text", "no such name")),
                (get(name("p"), "x"), ("get", "x", "p"), False, ("text", "no such name")),
                (("has", name("t"), "x"), ("has", "x"), True, ("bool", False)),
                (("look", name("t"), "x"), ("look", "x"), True, NONE),
            ):
                for led, side, owner in self.prepared((("hide", "x"),)):
                    before = led.world.held(owner)
                    self.same(led.turn(side, *deep(many, back(e))), (ok, value))
                    told = replaced(word, {"t": (owner, 0, "object"), "p": (side, 0, "object")})
                    self.same(led.events()[1:-1], (("request", side, many, 0, told), ("reply", ok, value)))
                    self.assertEqual(led.world.held(owner), before)

    def test_4_names_without_the_hidden_ones(self):
        for policy, text in (
            ((), "x y"), ((("hide", "x"),), "y"), ((("hide", "y"), ("hide", "x")), ""),
            ((("only", 0, ("hide", "y")),), "x"),
            ((("only", 1, ("hide", "y")), ("protect", "x"), ("readonly",), ("nocall",)), "x y"),
        ):
            for many in (0, 20):
                for led, side, owner in self.prepared(policy):
                    self.same(led.turn(side, *deep(many, back(("names", name("t"))))), (True, ("text", text)))
                    self.same(led.events()[1:-1], (
                        ("request", side, many, 0, ("names",)), ("reply", True, ("text", text)),
                    ))

    def test_5_too_deep_behind_crossing(self):
        for statement, word in self.OPERATIONS:
            if word == "names":
                continue
            for led, side, owner in self.prepared():
                before = led.world.held(owner)
                self.same(led.turn(side, *deep(20, statement)), refused("too deep"))
                told = led.events()
                self.assertEqual(told[1][:4], ("request", side, 20, 0))
                self.same(told[2:], (("reply", False, ("text", "too deep")), ("end",)))
                self.assertEqual(led.world.held(owner), before)
        for led, side, owner in self.prepared():
            self.same(led.turn(side, *deep(20, do(call(name("f"), name("o"))))), refused("too deep"))
            self.assertEqual(led.world.held(side)[1], (1,))

    def test_6_the_owner_does_it(self):
        for led, side, owner in self.prepared():
            led.begin(side, do(call(name("f"))), show(words("behind")))
            states = []
            while led.world.state() != "":
                states.append(led.world.state())
                led.world.go(1)
            self.assertEqual((led.seen(side), led.seen(owner)), (["behind"], ["done"]))
            self.assertEqual([side for side, last in zip(states, [""] + states) if side != last], [side, owner, side])

    def test_6_the_policy_of_the_owner_is_not_asked_about_what_it_does_itself(self):
        policy = (("only", 1, ("nocall",)), ("hide", "y"), ("readonly",))
        for led, side, owner in self.pairs(owner=policy):
            led.made(owner, t=thing(y=num(1)), f=giving(num(5)))
            led.made(owner, g=func((), put(name("t"), "y", call(name("f"))), back(get(name("t"), "y"))))
            self.same(led.turn(side, do(call(name("f")))), refused("denied"))
            self.same(led.turn(side, back(call(name("g")))), (True, ("int", 5)))

    def test_what_is_denied_can_be_caught(self):
        for led, side, owner in self.prepared((("nocall",),)):
            led.turn(side, attempt(do(call(name("f")))), show(words("behind")))
            self.assertEqual(led.seen(side), ["!denied", "behind"])

    def test_requests_back_and_forth(self):
        for led, side, owner in self.pairs():
            led.made(owner, f=func(("o", "n"), show(name("n")), back(send(name("o"), "m", name("n")))))
            led.turn(side, let("o", thing(m=func(("n",), show(name("n")), (
                "if", name("n"), (back(call(name("f"), name("me"), less_one("n"))),), ()), back(name("me"))))))
            led.events()
            self.same(led.turn(side, back(("bin", "==", call(name("f"), name("o"), num(2)), name("o")))),
                      (True, ("bool", True)))
            self.assertEqual((led.seen(side), led.seen(owner)), (["2", "1", "0"], ["2", "1", "0"]))
            o, m = (side, 0, "object"), (side, 1, "function")
            events = []
            for n, depth in ((2, 0), (1, 4), (0, 8)):
                events += [
                    ("request", side, depth, 0, ("call", NONE, (o, ("int", n)))),
                    ("request", owner, depth + 2, 0, ("get", "m", o)), ("reply", True, m),
                    ("request", owner, depth + 2, 1, ("call", o, (("int", n),))),
                ]
            events += [("reply", True, o)] * 6
            self.same(led.events()[1:-1], tuple(events))


def replaced(operation, told):
    """The operation with values in place of the letters that stand for them."""
    if operation[0] in ("get", "put"):
        return operation[:2] + tuple(told[v] for v in operation[2:])
    if operation[0] == "call":
        return operation[:2] + (tuple(told[v] for v in operation[2]),)
    if operation[0] == "define":
        return operation[:2] + (tuple(told.get(v, v) if v != "ask" else v for v in operation[2]),)
    return operation


if __name__ == "__main__":
    unittest.main()
