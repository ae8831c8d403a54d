"""Long chains of parents, and deep programs and calls, need no nested calls of the program's functions (c1)."""

import inspect
import sys
import unittest

from building import (
    DONE, NOTHING, TRUE, World,
    ask, attempt, back, call, do, ended, func, get, less_one, let, name, num, plus, put, refused, send, show, thing,
    words,
)
from leading import Led

from membrane.errors import BadProgram
from membrane.programs import check_block

LENGTH = 3000


class FewCallsTest(unittest.TestCase):
    """Each test runs with few nested calls left to Python."""

    def setUp(self):
        before = sys.getrecursionlimit()
        self.addCleanup(sys.setrecursionlimit, before)
        sys.setrecursionlimit(len(inspect.stack(0)) + 120)


def longer(x):
    """A loop that makes x the end of a chain of so many objects more; each is the parent of the next one."""
    step = ("set", "n", less_one("n"))
    return (let("n", num(LENGTH)), ("while", name("n"), (let(x, thing(name(x))), step)))


class ChainTest(FewCallsTest):
    def setUp(self):
        FewCallsTest.setUp(self)
        self.world = World()
        end = self.world.right(let("o", thing(a=num(1), b=num(2))), let("p", name("o")), *longer("o"))
        self.assertEqual(end, DONE)
        self.assertEqual(len(self.world.plain.heap), 2 + 1 + LENGTH)

    def turns(self):
        """The owner of the chain, and then the other side."""
        yield self.world.right
        self.world.plain.hand("right", "o")
        self.world.plain.hand("right", "p")
        yield self.world.left

    def members(self, x):
        return self.world.plain.heap[self.world.variables("right")[x][1]][1]

    def test_it_is_read_at_its_end(self):
        for turn in self.turns():
            self.assertEqual(turn(back(get(name("o"), "a"))), ended(("int", 1)))
            self.assertEqual(turn(do(get(name("o"), "c"))), refused("no such name"))
            self.assertEqual(turn(back(("has", name("o"), "b"))), ended(("bool", True)))
            self.assertEqual(turn(back(("has", name("o"), "c"))), ended(("bool", False)))

    def test_it_is_written_at_its_end(self):
        for turn in self.turns():
            self.assertEqual(turn(put(name("o"), "a", num(7)), ("fix", name("p"), "b")), DONE)
            self.assertEqual(turn(put(name("o"), "c", num(8))), DONE)
            self.assertEqual(turn(put(name("o"), "b", num(9))), refused("fixed"))
            told = [(x, member[1][1]) for x, member in self.members("o")]
            self.assertEqual(told, [("a", 7), ("c", 8)])
            self.assertEqual([x for x, _ in self.members("p")], ["a", "b"])
            self.world.right(("drop", name("o"), "a"), ("drop", name("o"), "c"))

    def test_a_getter_and_a_setter_at_its_end(self):
        getter = func((), back(plus(words("me is "), ("kind", name("me")))))
        setter = func(("w",), ("set", "got", name("me")))
        self.assertEqual(self.world.right(let("got", NOTHING), ask(name("p"), "c", getter, setter)), DONE)
        for turn in self.turns():
            self.assertEqual(turn(back(get(name("o"), "c"))), ended(("text", "me is object")))
            self.assertEqual(turn(put(name("o"), "c", num(1))), DONE)
            variables = self.world.variables("right")
            self.assertEqual(variables["got"], variables["o"])

    def test_a_function_at_its_end(self):
        self.assertEqual(self.world.right(put(name("p"), "f", func(("x",), back(plus(name("x"), num(1)))))), DONE)
        for turn in self.turns():
            self.assertEqual(turn(back(send(name("o"), "f", num(4)))), ended(("int", 5)))

    def test_a_chain_of_each_side(self):
        self.assertTrue(self.world.plain.hand("right", "o"))
        self.assertEqual(self.world.left(*longer("o")), DONE)
        self.assertEqual(self.world.left(back(get(name("o"), "a"))), ended(("int", 1)))
        self.assertEqual(self.world.left(put(name("o"), "a", num(5)), back(get(name("o"), "a"))), ended(("int", 5)))
        self.assertEqual(self.world.right(back(get(name("p"), "a"))), ended(("int", 1)))
        self.assertEqual(self.world.left(put(name("o"), "c", num(6))), DONE)
        self.assertEqual(self.world.left(back(("names", name("o")))), ended(("text", "a c")))


class WorldTest(FewCallsTest):
    """In a world with a membrane, and in replays of both sides."""

    def setUp(self):
        FewCallsTest.setUp(self)
        self.led = Led()
        getter = func((), back(plus(words("me is "), ("kind", name("me")))))
        setter = func(("w",), put(name("p"), "d", name("w")))
        self.assertEqual(self.led.right(
            let("o", thing(a=num(1), b=num(2), d=num(3))), let("p", name("o")), ask(name("p"), "g", getter, setter),
            put(name("p"), "f", func(("x",), back(plus(name("x"), num(1))))), ("fix", name("p"), "b"), *longer("o"),
        ), (True, ("none",)))
        self.led.hand("right", "o", "p")
        self.led.events()

    def is_replayed(self):
        for side in ("left", "right"):
            replay = self.led.replay(side)
            self.assertEqual(replay.go(10 ** 9), self.led.world.steps(side))
            self.assertEqual((replay.result(), replay.place()), (("same",), len(self.led.world.trace())))
            self.assertTrue(replay.held() == self.led.world.held(side))

    def test_read_and_written_at_its_end(self):
        for side in ("right", "left"):
            for e, end in (
                (get(name("o"), "a"), (True, ("int", 1))), (get(name("o"), "z"), (False, ("text", "no such name"))),
                (("has", name("o"), "b"), (True, ("bool", True))), (("has", name("o"), "z"), (True, ("bool", False))),
                (get(name("o"), "g"), (True, ("text", "me is object"))),
                (send(name("o"), "f", num(4)), (True, ("int", 5))),
            ):
                self.assertEqual(self.led.turn(side, back(e)), end)
            self.assertEqual(self.led.turn(side, put(name("o"), "b", num(7))), (False, ("text", "fixed")))
            self.assertEqual(self.led.turn(side, put(name("o"), "g", num(8))), (True, ("none",)))
            self.assertEqual(self.led.turn(side, back(get(name("o"), "d"))), (True, ("int", 8)))
            end = self.led.turn(
                side, put(name("o"), "d", num(3)), put(name("o"), "c", num(9)), back(("names", name("o"))),
            )
            self.assertEqual(end, (True, ("text", "d c")))
            self.led.right(("drop", name("o"), "c"), ("drop", name("o"), "d"), put(name("p"), "d", num(3)))
        self.is_replayed()

    def test_a_chain_of_each_side(self):
        self.assertEqual(self.led.left(*longer("o")), (True, ("none",)))
        self.led.hand("left", "o")
        for side in ("left", "right"):
            self.assertEqual(self.led.turn(side, back(get(name("o"), "a"))), (True, ("int", 1)))
            end = self.led.turn(side, put(name("o"), "a", num(5)), back(get(name("p"), "a")))
            self.assertEqual(end, (True, ("int", 1)))
            end = self.led.turn(side, put(name("o"), "z", num(6)), back(get(name("o"), "a")))
            self.assertEqual(end, (True, ("int", 5)))
            self.assertEqual(self.led.left(("drop", name("o"), "a")), (True, ("none",)))
        self.is_replayed()

    def test_one_request_for_a_whole_chain(self):
        self.led.left(do(get(name("o"), "a")))
        self.assertEqual([event[0] for event in self.led.events()], ["turn", "request", "reply", "end"])


class DeepTest(FewCallsTest):
    def deep_block(self, *statements):
        """The statements with as many blocks and levels around a call as there may be."""
        e = call(name("f"), less_one("n"))
        for _ in range(5):
            e = ("choice", e, TRUE, TRUE)
        block = (do(e),)
        for _ in range(2):
            block = (("if", TRUE, block, ()), ("try", (("raise", num(1)),), "x", (("set", "n", name("n")),)))
        return statements + (("while", name("n"), block + (let("n", num(0)),)),)

    def test_deep_blocks_levels_and_calls(self):
        world = World()
        self.assertEqual(world.left(let("f", ("func", ("n",), self.deep_block(show(name("n")))))), DONE)
        self.assertEqual(world.left(do(call(name("f"), num(19)))), DONE)
        self.assertEqual(world.seen("left"), [str(n) for n in range(19, -1, -1)])
        self.assertEqual(world.left(attempt(do(call(name("f"), num(20))))), DONE)
        self.assertEqual(world.seen("left")[-1], "!too deep")

    def test_deep_calls_across(self):
        world = World()
        world.made("left", g=("func", ("n", "f"), self.deep_block(let("f", name("f")))))
        back_to_left = do(call(name("g"), name("n"), name("f")))
        world.made("right", f=("func", ("n",), self.deep_block(back_to_left, show(name("n")))))
        self.assertEqual(world.left(attempt(do(call(name("g"), num(30), name("f"))))), DONE)
        self.assertEqual(world.plain.depth, 0)

    def test_what_is_handed_to_check_block(self):
        e, block = ("const", ("int", 1)), (do(num(1)),)
        for _ in range(LENGTH):
            e, block = ("not", e), (("while", TRUE, block),)
        for wrong in ((do(e),), block, (("let", "x", ("func", (), block)),)):
            with self.assertRaises(BadProgram):
                check_block(wrong)

    def test_the_largest_block_that_is_one(self):
        e = call(num(1), num(1), num(2))
        for _ in range(6):
            e = call(e, e)
        block = (do(e),) * 20
        for _ in range(5):
            block = (do(("not", ("not", ("not", ("func", (), block))))),)
        self.assertIsNone(check_block(block))


if __name__ == "__main__":
    unittest.main()
