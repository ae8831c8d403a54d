"""World: turns, steps and held forms (m1, w1, w7, w9)."""

import unittest

from building import (
    NONE, NOTHING, REVOKER, SIDES, TRUE,
    attempt, back, call, do, func, get, giving, less_one, let, name, num, plus, put, revoking, send, show, thing,
    words,
)
from leading import DONE, Led

from membrane.errors import BadPolicy, BadProgram, BadState, MembraneError
from membrane.world import World

MODULE = ("scope", (("me", NONE),), -1)

WRONG_BLOCKS = (
    (), [], None, 5, "print", True, (5,), (("print",),), ((),), [("do", num(1))], (("do", ("const", ("ref", 0))),),
    (("let", "X", num(1)),), (("while", num(1), ()),), (("do", ("const", ("far", 0, "object"))),),
)
WRONG_POLICIES = (
    None, 5, "hide", [], ("hide",), (("hide",),), (("hide", "X"),), (("readonly",),) * 13,
    (("only", True, ("nocall",)),),
    (("only", -1, ("nocall",)),), (("only", 0, ("only", 0, ("nocall",))),), (["readonly"],),
)


def is_plain_data(thing):
    if isinstance(thing, tuple):
        return all(is_plain_data(part) for part in thing)
    return thing is None or type(thing) in (str, int, bool)


class StartTest(unittest.TestCase):
    def test_at_the_beginning(self):
        world = World((), (("readonly",),))
        self.assertEqual(world.state(), "")
        self.assertEqual(repr(world.ended()), "(True, ('none',))")
        self.assertEqual(world.trace(), ())
        for side in SIDES:
            self.assertEqual(world.out(side), "")
            self.assertEqual(world.steps(side), 0)
            self.assertEqual(world.held(side)[:4], ((MODULE,), (), "", False))
        self.assertEqual(world.go(1000), 0)

    def test_policies_of_either_side(self):
        for policy in WRONG_POLICIES:
            with self.subTest(policy=policy):
                self.assertRaises(BadPolicy, World, policy, ())
                self.assertRaises(BadPolicy, World, (), policy)
                self.assertRaises(BadPolicy, World, policy, policy)

    def test_each_side_has_its_own_policy(self):
        for policies, refused in ((((("nocall",),), ()), "right"), (((), (("nocall",),)), "left")):
            led = Led(*policies)
            led.made("left", f=giving(num(1)))
            led.made("right", g=giving(num(2)))
            ends = {"left": led.left(back(call(name("g")))), "right": led.right(back(call(name("f"))))}
            for side in SIDES:
                self.assertEqual(ends[side][0], side != refused)


class TurnTest(unittest.TestCase):
    def test_a_turn(self):
        for side in SIDES:
            world = World((), ())
            self.assertIsNone(world.begin(side, (show(num(1)), show(num(2)))))
            self.assertEqual(world.state(), side)
            self.assertEqual(world.trace(), (("turn", side),))
            self.assertEqual(world.ended(), DONE)
            many = world.go(1000)
            self.assertEqual(world.state(), "")
            self.assertEqual(world.trace(), (("turn", side), ("end",)))
            self.assertEqual(world.out(side), "1\n2\n")
            self.assertEqual(world.steps(side), many)
            for other in SIDES:
                if other != side:
                    self.assertEqual((world.out(other), world.steps(other)), ("", 0))
                    self.assertEqual(world.held(other)[:4], ((MODULE,), (), "", False))

    def test_ends(self):
        # The end of the turn, and what the side of the turn has printed.
        for statements, end in (
            ((do(num(1)),), DONE),
            ((show(num(1)),), DONE),
            ((back(num(5)), show(num(1))), (True, ("int", 5))),
            ((("if", TRUE, (("while", TRUE, (back(NOTHING),)),), ()), show(num(1))), DONE),
            ((("raise", words("t")), show(num(1))), (False, ("text", "t"))),
            ((("raise", NOTHING),), (False, NONE)),
            ((back(REVOKER),), (True, ("revoker",))),
            ((do(name("zz")),), (False, ("text", "no such name"))),
            ((do(call(num(1))),), (False, ("text", "not a function"))),
            ((back(thing()),), (True, ("ref", 1))),
            ((let("f", giving(name("f"))), ("raise", name("f"))), (False, ("ref", 1))),
            ((let("f", giving(num(3))), back(call(name("f")))), (True, ("int", 3))),
            ((do(call(giving(num(3)))),), DONE),
        ):
            for side in SIDES:
                led = Led()
                self.assertEqual(repr(led.turn(side, *statements)), repr(end), statements)
                self.assertEqual(led.events(), (("turn", side), ("end",)))

    def test_the_end_is_a_value_of_that_side(self):
        for side, other in (SIDES, SIDES[::-1]):
            led = Led()
            led.made(side, o=thing(), f=func((), ("raise", name("o"))))
            self.assertEqual(led.turn(side, back(name("o"))), (True, ("ref", 1)))
            self.assertEqual(led.turn(other, back(name("o"))), (True, ("far", 0, "object")))
            self.assertEqual(led.turn(other, ("raise", name("f"))), (False, ("far", 1, "function")))
            self.assertEqual(led.turn(other, do(call(name("f")))), (False, ("far", 0, "object")))

    def test_ended_stays_until_the_next_turn_ends(self):
        led = Led()
        led.begin("left", ("raise", num(1)))
        self.assertEqual(led.world.ended(), DONE)
        led.finish()
        for _ in range(2):
            self.assertEqual(led.world.ended(), (False, ("int", 1)))
        led.made("right", x=num(4))
        self.assertEqual(led.world.ended(), DONE)
        led.left(back(num(2)))
        led.hand("right", "x")
        led.begin("right", back(name("x")))
        while led.world.state() == "right":
            self.assertEqual(led.world.ended(), (True, ("int", 2)))
            led.world.go(1)
        self.assertEqual(led.world.ended(), (True, ("int", 4)))
        led.revoke()
        self.assertEqual(led.world.ended(), (True, ("int", 4)))

    def test_a_turn_runs_in_the_scope_of_the_module(self):
        led = Led()
        led.left(let("x", num(1)))
        led.right(let("x", num(2)))
        self.assertEqual(led.left(back(name("x"))), (True, ("int", 1)))
        self.assertEqual(led.right(back(name("x"))), (True, ("int", 2)))
        self.assertEqual(led.left(back(name("me"))), DONE)
        self.assertEqual(led.variables("left"), {"me": NONE, "x": ("int", 1)})

    def test_the_state_is_the_side_that_runs(self):
        led = Led()
        led.made("right", f=giving(num(1)))
        led.begin("left", do(call(name("f"))), do(call(name("f"))))
        states, steps = ["left"], {"left": led.world.steps("left"), "right": led.world.steps("right")}
        while led.world.state() != "":
            state = led.world.state()
            led.world.go(1)
            # It is this side that has made the step.
            steps[state] += 1
            self.assertEqual({side: led.world.steps(side) for side in SIDES}, steps)
            if led.world.state() != states[-1]:
                states.append(led.world.state())
        self.assertEqual(states, ["left", "right", "left", "right", "left", ""])


class BadStateTest(unittest.TestCase):
    def running(self):
        """Worlds in the midst of turns: at its beginning, later, while a side waits, and behind revoking."""
        for revoked in (False, True):
            led = Led()
            led.made("right", f=giving(num(1)), x=num(3))
            led.made("left", y=num(3))
            if revoked:
                led.revoke()
            led.begin("left", let("o", thing()), attempt(do(call(name("f")))))
            yield led
            while True:
                led.world.go(1)
                if led.world.state() == "":
                    break
                yield led

    def test_begin(self):
        for led in self.running():
            before = led.everything()
            for side in SIDES:
                for block in ((do(num(1)),),) + WRONG_BLOCKS:
                    self.assertRaises(BadState, led.world.begin, side, block)
            self.assertEqual(led.everything(), before)

    def test_hand(self):
        for led in self.running():
            before = led.everything()
            for side, x in (("right", "x"), ("left", "y"), ("left", "zz")):
                self.assertRaises(BadState, led.world.hand, side, x)
            self.assertEqual(led.everything(), before)

    def test_revoke(self):
        for led in self.running():
            before = led.everything()
            self.assertRaises(BadState, led.world.revoke)
            self.assertEqual(led.everything(), before)

    def test_the_world_goes_on_as_ever(self):
        told = []
        for disturbed in (False, True):
            for led in self.running():
                if disturbed:
                    for deed in (lambda: led.world.revoke(), lambda: led.world.hand("left", "o")):
                        self.assertRaises(MembraneError, deed)
            told.append(led.everything())
        self.assertEqual(told[0], told[1])

    def test_no_block(self):
        led = Led()
        led.left(let("x", num(1)), back(num(7)))
        before = led.everything()
        for block in WRONG_BLOCKS:
            for side in SIDES:
                with self.subTest(block=block):
                    self.assertRaises(BadProgram, led.world.begin, side, block)
                    self.assertEqual(led.everything(), before)
        self.assertEqual(led.left(back(name("x"))), (True, ("int", 1)))


# A turn of left with statements of every kind, calls of both sides, and a raise at its end.
LONG_TURN = (
    let("n", num(3)),
    ("while", name("n"), (
        show(name("n")), ("set", "n", less_one("n")),
        ("if", ("bin", "<", name("n"), num(2)), (do(call(name("f"), name("n"))),), (do(num(1)),)),
    )),
    let("o", thing(name("t"), y=num(2))),
    put(name("o"), "x", num(5)), put(name("t"), "y", name("o")),
    ("ask", name("o"), "z", func((), show(words("got")), back(get(name("me"), "y"))), NOTHING),
    show(get(name("o"), "z")),
    attempt(show(get(name("o"), "zz"))),
    attempt(put(name("o"), "w", num(1)), ("drop", name("t"), "w"), ("fix", name("t"), "y"), ("close", name("t"))),
    show(("names", name("t"))), show(("choice", ("is_open", name("t")), num(1), num(2))),
    show(send(name("o"), "m", giving(num(8)))),
    attempt(do(call(name("f")))),
    ("raise", call(name("f"), name("o"))),
)


class StepsTest(unittest.TestCase):
    def prepared(self):
        led = Led((), (("only", 0, ("hide", "w")),))
        led.made("right", t=thing(x=num(1), m=func(("a",), show(words("m")), back(call(name("a"))))), f=func(
            ("a",), show(name("a")), attempt(show(get(name("a"), "x"))), back(name("a")),
        ))
        return led

    def led_by(self, *slices):
        """All that the world tells behind the long turn, made in slices of these lengths by turns."""
        led = self.prepared()
        for side, statements in (("left", LONG_TURN), ("right", (show(num(9)), revoking())), ("left", LONG_TURN)):
            led.begin(side, *statements)
            made, at = 0, 0
            while led.world.state() != "":
                many = slices[at % len(slices)]
                before = led.world.steps("left") + led.world.steps("right")
                told = led.world.go(many)
                after = led.world.steps("left") + led.world.steps("right")
                self.assertEqual(told, after - before)
                if led.world.state() != "":
                    self.assertEqual(told, many)
                made, at = made + told, at + 1
            self.assertEqual(led.world.go(100), 0)
        return led.everything()

    def test_in_slices_and_at_once(self):
        told = self.led_by(10 ** 9)
        self.assertIn("got\n", told[3][0][1])
        self.assertIn(("reply", True, ("left", 0, "object")), told[2])
        for slices in ((1,), (2,), (3, 1), (7,), (1, 0, 50), (100, 3)):
            self.assertEqual(self.led_by(*slices), told, slices)

    def test_go_makes_no_step_more_than_told(self):
        led = self.prepared()
        led.begin("left", *LONG_TURN)
        before = led.everything()
        self.assertEqual(led.world.go(0), 0)
        self.assertEqual(led.everything(), before)
        for many in (1, 2, 5, 1, 0):
            self.assertEqual(led.world.go(many), many)

    def test_a_program_without_an_end(self):
        for side in SIDES:
            led = Led()
            led.begin(side, ("while", TRUE, (let("x", num(1)),)))
            for many in (1, 10, 0, 5000):
                self.assertEqual(led.world.go(many), many)
            self.assertEqual(led.world.state(), side)
            self.assertEqual(led.world.steps(side), 5011)
            self.assertEqual(led.world.trace(), (("turn", side),))

    def test_a_program_of_the_other_side_without_an_end(self):
        led = Led()
        led.made("right", f=func((), ("while", TRUE, (let("x", num(1)),))))
        led.begin("left", do(call(name("f"))))
        self.assertEqual(led.world.go(3000), 3000)
        self.assertEqual(led.world.state(), "right")
        self.assertGreater(led.world.steps("right"), 2900)

    def test_no_steps_at_rest(self):
        led = Led()
        self.assertEqual(led.world.go(5), 0)
        led.left(do(num(1)))
        self.assertEqual(led.world.go(5), 0)
        led.hand("left", "me")
        led.revoke()
        self.assertEqual(led.world.go(5), 0)

    def test_each_statement_takes_at_least_one_step(self):
        begun = func((), do(num(1)), do(num(2)), do(num(3)))
        nested = ("if", TRUE, (("try", (("if", num(0), (do(num(1)),), ()), do(num(1))), "x", (do(num(2)),)),), ())
        for statements, many in (
            ((do(num(1)),), 1), ((do(num(1)),) * 200, 200),
            ((let("x", num(1)), ("set", "x", num(2)), show(name("x")), back(num(1)), do(num(1))), 4),
            ((nested,), 4), ((let("f", begun), do(call(name("f")))), 5), ((do(call(begun)),), 4),
            ((let("n", num(9)), ("while", name("n"), (("set", "n", less_one("n")),))), 11),
            ((("try", (("raise", num(1)), do(num(1))), "x", (do(num(2)), do(num(3)))),), 4),
        ):
            for side in SIDES:
                led = Led()
                led.turn(side, *statements)
                self.assertGreaterEqual(led.world.steps(side), many, statements)

    def test_no_statement_is_run_before_its_step(self):
        # Behind n steps at most n statements have begun.
        led = Led()
        led.begin("left", *[show(num(n)) for n in range(50)])
        many = 0
        while led.world.state() != "":
            many += led.world.go(1)
            self.assertLessEqual(len(led.world.out("left").split()), many)

    def test_statements_of_the_other_side_take_its_steps(self):
        led = Led()
        led.made("right", f=func((), *[do(num(1))] * 30))
        before = led.world.steps("right")
        led.left(do(call(name("f"))))
        self.assertGreaterEqual(led.world.steps("right") - before, 30)
        self.assertLess(led.world.steps("left"), 20)

    def test_what_follows_a_step_is_done_at_once(self):
        # Behind each step the side that runs can make one: nobody is asked, told or at its end without knowing it.
        led = self.prepared()
        led.begin("left", *LONG_TURN)
        while led.world.state() != "":
            before = led.world.state(), led.world.trace()
            led.world.go(1)
            state, new = led.world.state(), led.world.trace()[len(before[1]):]
            for event in new:
                if event[0] == "request":
                    self.assertEqual(event[1], before[0])
            words_of = [event[0] for event in new]
            if words_of == []:
                self.assertEqual(state, before[0])
            elif words_of[-1] == "end":
                self.assertEqual(state, "")
            elif words_of in (["request", "reply"], ["request", "denied"]):
                # What the policy answers and denies takes no step of the owner.
                self.assertEqual(state, before[0])
            else:
                self.assertIn(words_of, (["request"], ["reply"]))
                self.assertNotEqual(state, before[0])

    def test_what_a_policy_says_takes_no_step_of_the_owner(self):
        led = Led((), (("hide", "x"), ("readonly",), ("nocall",)))
        led.made("right", t=thing(x=num(1)), f=giving(num(1)))
        before = led.world.steps("right")
        led.left(
            attempt(do(get(name("t"), "x"))), show(("has", name("t"), "x")), show(("names", name("t"))),
            attempt(("close", name("t"))), attempt(do(call(name("f")))), attempt(put(name("t"), "y", num(1))),
        )
        self.assertEqual(led.seen("left"), ["!no such name", "False", "", "!denied", "!denied", "!denied"])
        self.assertEqual(led.world.steps("right"), before)


class HeldTest(unittest.TestCase):
    def forms(self):
        """Worlds ahead of, in the midst of and behind turns."""
        led = Led()
        yield led
        led.made("right", t=thing(x=num(1)), f=func(("a",), show(name("a")), back(call(name("a")))))
        for last in (do(num(1)), revoking()):
            led.begin("left", let("o", thing(name("t"))), let("g", giving(name("o"))), show(call(name("f"), name("g"))),
                      put(name("o"), "x", num(2)), last)
            yield led
            while led.world.state() != "":
                led.world.go(1)
                yield led
            led.hand("left", "o")
            yield led

    def test_five_parts(self):
        for led in self.forms():
            for side in SIDES:
                form = led.world.held(side)
                self.assertIs(type(form), tuple)
                self.assertEqual(len(form), 5)
                heap, gone, out, revoked, doing = form
                self.assertEqual([type(part) for part in form[:4]], [tuple, tuple, str, bool])
                self.assertEqual(out, led.world.out(side))
                self.assertTrue(is_plain_data(form))
                self.assertEqual(heap[0][0], "scope")
                for k in gone:
                    self.assertIn(heap[k][0], ("object", "func"))

    def test_a_form_that_was_told_stays_as_it_was(self):
        told = []
        for led in self.forms():
            for side in SIDES:
                form = led.world.held(side)
                told.append((form, repr(form)))
        for form, text in told:
            self.assertEqual(repr(form), text)

    def test_the_parts(self):
        led = Led()
        led.left(let("o", thing(x=num(1))), let("f", giving(name("o"))), let("p", thing(name("o"))), show(num(1)))
        led.hand("left", "p", "f", "p")
        body = (back(name("o")),)
        o = ("object", (("x", ("data", ("int", 1), False)),), NONE, True)
        f = ("func", (), body, 0, (), True)
        p = ("object", (), ("ref", 1), True)
        variables = (("me", NONE), ("o", ("ref", 1)), ("f", ("ref", 2)), ("p", ("ref", 3)))
        heap = (("scope", variables, -1), o, f, p)
        self.assertEqual(led.world.held("left")[:4], (heap, (3, 2), "1\n", False))
        told = (("me", NONE), ("p", ("far", 0, "object")), ("f", ("far", 1, "function")))
        self.assertEqual(led.world.held("right")[:4], ((("scope", told, -1),), (), "", False))
        led.right(show(call(name("f"))), let("q", thing(name("p"))))
        self.assertEqual(led.world.held("left")[:3], (heap + (("scope", (("me", NONE),), 0),), (3, 2, 1), "1\n"))
        q = ("object", (), ("far", 0, "object"), True)
        self.assertEqual(led.world.held("right")[0][1:], (q,))
        self.assertEqual(led.world.held("right")[2], "<object>\n")
        led.revoke()
        self.assertEqual([led.world.held(side)[3] for side in SIDES], [True, True])

    def test_what_a_side_is_doing_shows(self):
        # Each step changes the held form: the side would do the same for ever otherwise.
        led = Led()
        led.begin("left", let("x", num(1)), do(plus(name("x"), num(2))), ("if", name("x"), (do(num(1)),), ()))
        forms = [led.world.held("left")]
        while led.world.state() != "":
            led.world.go(1)
            forms.append(led.world.held("left"))
        self.assertEqual(len(set(forms)), len(forms))
        # At rest a side does nothing.
        self.assertEqual(forms[-1][4], Led().world.held("left")[4])

    def test_telling_changes_nothing(self):
        plain, looked = Led(), Led()
        for led in (plain, looked):
            led.made("right", f=giving(num(1)))
            led.begin("left", show(call(name("f"))), show(num(2)))
            while led.world.state() != "":
                led.world.go(1)
                if led is looked:
                    for _ in range(2):
                        led.everything()
        self.assertEqual(plain.everything(), looked.everything())


class TwoWorldsTest(unittest.TestCase):
    def test_they_do_not_touch_one_another(self):
        def start(number):
            led = Led((), (("only", number, ("hide", "x")),))
            led.made("right", t=thing(x=num(number)), u=thing(x=num(number)), f=func(
                ("a",), show(name("a")), put(name("t"), "x", name("a")), back(name("a")),
            ))
            led.begin("left", *[show(call(name("f"), num(n))) for n in range(number, number + 3)],
                      attempt(show(get(name("t"), "x"))), attempt(show(get(name("u"), "x"))))
            return led

        alone = []
        for number in range(2):
            led = start(number)
            led.finish()
            alone.append(led.everything())
        self.assertNotEqual(alone[0], alone[1])
        both = [start(0), start(1)]
        while any(led.world.state() != "" for led in both):
            for led, many in zip(both, (1, 2)):
                led.world.go(many)
        self.assertEqual([led.everything() for led in both], alone)

    def test_revoking_one_leaves_the_other(self):
        first, second = Led(), Led()
        for led in (first, second):
            led.made("right", f=giving(num(1)))
        first.revoke()
        self.assertEqual(first.left(do(call(name("f")))), (False, ("text", "revoked")))
        self.assertEqual(second.left(back(call(name("f")))), (True, ("int", 1)))


if __name__ == "__main__":
    unittest.main()
