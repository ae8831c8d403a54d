"""Fuel (q4): what takes some, and that a turn which has not enough ends there."""

import unittest

from building import (
    DONE, ENOUGH, FALSE, LONG, NONE, TRUE, World,
    ask, attempt, back, call, do, ended, func, get, giving, less_one, let, name, num, plus, put, refused, send, show,
    thing, words,
)

STEP = ("set", "n", less_one("n"))

# Blocks and how many statements and rounds begin in them.
BLOCKS = (
    (1, (do(num(1)),)),
    (3, (do(num(1)), let("a", num(2)), show(num(3)))),
    (2, (("if", TRUE, (do(num(1)),), ()),)),
    (1, (("if", FALSE, (do(num(1)),), ()),)),
    (3, (("if", FALSE, (do(num(1)),), (do(num(1)), do(num(2)))),)),
    (1, (("while", FALSE, (do(num(1)),)),)),
    # The statement, then a round and two statements three times.
    (11, (let("n", num(3)), ("while", name("n"), (do(num(1)), STEP)))),
    (3, (("try", (do(num(1)), do(num(2))), "x", (do(num(3)), do(num(4)), do(num(5)))),)),
    (5, (("try", (do(num(1)), ("raise", num(2))), "x", (do(num(3)), do(num(4)))),)),
    (3, (("try", (do(name("zz")), do(num(1))), "x", (do(num(3)),)),)),
    # A call takes what its body takes.
    (2, (let("f", func((), do(num(1)), do(num(2)))), do(num(0)))),
    (4, (let("f", func((), do(num(1)), do(num(2)))), do(call(name("f"))))),
    (6, (do(plus(call(giving(num(1))), call(giving(num(2))))), do(call(giving(num(3)))), do(num(4)))),
    (3, (back(call(func((), do(num(0)), back(num(1)), do(num(2))))),)),
    (5, (let("o", thing()), ask(name("o"), "x", giving(num(1))), do(get(name("o"), "x")), do(num(1)))),
    (4, (let("o", thing()), ask(name("o"), "x", num(0), func(("w",), do(num(1)))), put(name("o"), "x", num(1)))),
    (4, (let("o", thing(f=giving(num(1)))), do(send(name("o"), "f")), do(num(1)))),
    (1, (do(("choice", TRUE, thing(), call(giving(num(1))))),)),
    # A loop and a round, in it the same, and the return.
    (5, (("while", TRUE, (("while", TRUE, (back(num(1)),)),)),)),
    (2, (("raise", call(giving(num(1)))), do(num(2)))),
    (2, (do(num(0)), do(name("zz")), do(num(2)))),
)


class FuelTest(unittest.TestCase):
    def setUp(self):
        self.world = World()

    def turn(self, fuel, *statements):
        return self.world.turn("left", statements, fuel)

    def test_just_enough_and_one_less(self):
        for need, block in BLOCKS:
            with self.subTest(block=block):
                wanted = World().turn("left", block)
                self.assertEqual(wanted[0], "over")
                for fuel in (need, need + 1, need + 50):
                    self.assertEqual(World().turn("left", block, fuel), wanted)
                for fuel in range(need):
                    self.assertEqual(World().turn("left", block, fuel), LONG)

    def test_no_fuel(self):
        before = list(self.world.plain.heap)
        self.assertEqual(self.turn(0, show(num(1))), LONG)
        self.assertEqual(self.turn(0, ("if", thing(), (do(num(1)),), ())), LONG)
        self.assertEqual(self.turn(0, ("try", (do(num(1)),), "x", (do(num(1)),))), LONG)
        self.assertEqual(self.world.plain.heap, before)
        self.assertEqual(self.world.plain.outs, ["", ""])

    def test_nothing_behind_it_has_run(self):
        block = (show(num(1)), show(num(2)), show(num(3)), let("a", thing()))
        for fuel in range(4):
            self.assertEqual(self.turn(fuel, *block), LONG)
            self.assertEqual(self.world.seen("left"), ["1", "2", "3"][:fuel])
        self.assertNotIn("a", self.world.variables("left"))

    def test_a_statement_begins_ahead_of_its_parts(self):
        said = func((), show(words("said")), back(num(1)))
        self.assertEqual(self.turn(3, let("f", said), let("a", call(name("f"))), show(num(5))), LONG)
        self.assertEqual(self.world.seen("left"), ["said"])
        self.assertNotIn("a", self.world.variables("left"))
        self.assertEqual(self.turn(1, do(num(1)), show(call(name("f")))), LONG)
        self.assertEqual(self.world.seen("left"), [])

    def test_what_was_done_till_then_stays_done(self):
        self.assertEqual(self.turn(3, let("a", num(1)), show(num(1)), let("b", thing()), let("c", num(3))), LONG)
        self.assertEqual(self.world.variables("left"), {"me": NONE, "a": ("int", 1), "b": ("ref", 2)})
        self.assertEqual(self.world.plain.heap[2], ("object", (), NONE, True))
        self.assertEqual(self.world.plain.outs, ["1\n", ""])

    def test_a_round_begins_behind_a_test_that_was_true(self):
        said = func((), show(words("test")), back(name("n")))
        self.assertEqual(self.turn(ENOUGH, let("n", num(2)), let("f", said)), DONE)
        loop = ("while", call(name("f")), (STEP, show(words("round"))))
        # Once the statement; then, in turn, the two statements of the test, and the round and its two statements.
        lines = ["test", "round", "test", "round", "test"]
        for fuel, many in enumerate((0, 0, 1, 1, 1, 1, 2, 3, 3, 3, 3, 4, 5)):
            self.assertEqual(self.turn(ENOUGH, let("n", num(2))), DONE)
            self.assertEqual(self.turn(fuel, loop), LONG, fuel)
            self.assertEqual(self.world.seen("left"), lines[:many], fuel)
        self.assertEqual(self.turn(ENOUGH, let("n", num(2))), DONE)
        self.assertEqual(self.turn(13, loop), DONE)
        self.assertEqual(self.world.seen("left"), lines)

    def test_a_loop_without_an_end(self):
        for fuel in (0, 1, 2, 100, 4001):
            self.assertEqual(self.turn(fuel, ("while", TRUE, (do(num(1)),))), LONG)

    def test_no_handler_runs(self):
        handler = (show(words("handler")),)
        inner = ("try", (do(num(1)), do(num(2))), "x", handler)
        for fuel in (1, 2, 3, 4):
            self.assertEqual(self.turn(fuel, ("try", (inner, do(num(3))), "y", handler), show(words("end"))), LONG)
        self.assertEqual(self.turn(2, ("try", (("raise", num(1)),), "x", handler)), LONG)
        self.assertEqual(self.world.seen("left"), [])
        self.assertEqual(self.world.variables("left")["x"], ("int", 1))

    def test_no_handler_of_the_other_side_runs(self):
        handler = (show(words("handler")),)
        self.world.made("right", f=func(("h",), ("try", (do(call(name("h"))),), "x", handler), show(words("end"))))
        loop = func((), ("while", TRUE, (do(num(1)),)))
        self.assertEqual(self.turn(50, ("try", (do(call(name("f"), loop)),), "x", handler), show(words("end"))), LONG)
        self.assertEqual(self.world.plain.outs, ["", ""])
        self.assertEqual(self.world.plain.depth, 0)

    def test_fuel_is_for_both_sides_together(self):
        self.world.made("right", f=func((), do(num(1)), do(num(2))))
        self.assertEqual(self.turn(2, do(call(name("f")))), LONG)
        self.assertEqual(self.turn(3, do(call(name("f")))), DONE)
        self.assertEqual(self.turn(3, do(call(name("f"))), do(num(1))), LONG)

    def test_later_runs_and_handings_work_as_ever(self):
        self.world.made("right", o=thing(x=num(1)), f=func(("h",), do(call(name("h"))), back(num(7))))
        loop = func((), ("while", TRUE, (do(num(1)),)))
        deep = func(("n",), ("if", name("n"), (do(call(name("deep"), less_one("n"))),), ()), back(num(5)))
        made = (let("loop", loop), let("deep", deep))
        self.assertEqual(self.turn(60, *made, attempt(do(call(name("f"), name("loop"))))), LONG)
        plain = self.world.plain
        self.assertEqual((plain.depth, plain.revoked, plain.outs), (0, False, ["", ""]))
        self.assertTrue(self.world.plain.hand("left", "loop"))
        self.assertEqual(self.turn(ENOUGH, show(call(name("deep"), num(19)))), DONE)
        self.assertEqual(self.turn(ENOUGH, do(call(name("deep"), num(20)))), refused("too deep"))
        caught = attempt(("raise", words("caught")))
        self.assertEqual(self.turn(ENOUGH, caught, back(get(name("o"), "x"))), ended(("int", 1)))
        self.assertEqual(self.world.right(back(get(name("o"), "x"))), ended(("int", 1)))
        self.assertEqual(self.turn(2, do(call(name("f"), giving(num(1)))), do(num(1))), LONG)
        self.assertEqual(self.turn(ENOUGH, back(call(name("f"), giving(num(1))))), ended(("int", 7)))
        self.assertEqual(self.world.seen("left"), ["5", "!caught"])

    def test_each_turn_has_fuel_of_its_own(self):
        for _ in range(3):
            self.assertEqual(self.turn(2, do(num(1)), do(num(2))), DONE)
        self.assertEqual(self.turn(1000, do(num(1))), DONE)
        self.assertEqual(self.turn(1, do(num(1)), do(num(2))), LONG)

    def test_revoking_ahead_of_the_end_stays(self):
        self.assertEqual(self.turn(1, do(call(("const", ("revoker",)))), do(num(1))), LONG)
        self.assertIs(self.world.plain.revoked, True)


if __name__ == "__main__":
    unittest.main()
