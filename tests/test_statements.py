"""What statements do (p4) and what is in the scope of a call (p5), in a plain world of which one side runs."""

import unittest

from building import (
    DONE, FALSE, NONE, NOTHING, REVOKER, SAY, TRUE, World,
    ask, attempt, back, call, do, ended, func, get, giving, less_one, let, name, num, plus, put, refused, said, send,
    show, thing, words,
)

NO_OBJECTS = (NOTHING, TRUE, num(7), words("t"), REVOKER)


def less(a, b):
    return ("bin", "<", a, b)


class StatementTest(unittest.TestCase):
    def setUp(self):
        self.world = World()
        self.assertEqual(self.world.left(SAY), DONE)

    def assert_run(self, *statements):
        self.assertEqual(self.world.left(*statements), DONE)

    def assert_refused(self, text, *statements):
        with self.subTest(statements=statements):
            self.assertEqual(self.world.left(*statements), refused(text))

    def assert_seen(self, *lines):
        self.assertEqual(self.world.seen("left"), list(lines))

    def variable(self, x):
        return self.world.variables("left").get(x)


class VariableTest(StatementTest):
    def test_let(self):
        self.assert_run(let("b", num(1)), let("a", num(2)))
        self.assertEqual(self.world.plain.heap[0][1][-2:], (("b", ("int", 1)), ("a", ("int", 2))))
        self.assertEqual(self.world.plain.heap[0][1][0], ("me", NONE))
        self.assertEqual(self.world.plain.heap[0][2], -1)

    def test_let_in_its_place(self):
        self.assert_run(let("a", num(1)), let("b", num(2)), let("c", num(3)), let("b", words("new")))
        told = (("a", ("int", 1)), ("b", ("text", "new")), ("c", ("int", 3)))
        self.assertEqual(self.world.plain.heap[0][1][-3:], told)
        self.assert_run(let("me", num(1)))
        self.assertEqual(self.world.plain.heap[0][1][0], ("me", ("int", 1)))

    def test_let_is_of_the_scope_in_which_it_runs(self):
        inner = func((), let("a", num(2)), show(name("a")))
        self.assert_run(let("a", num(1)), do(call(inner)), show(name("a")))
        self.assert_seen("2", "1")

    def test_blocks_have_no_scope_of_their_own(self):
        self.assert_run(
            ("if", TRUE, (let("a", num(1)),), ()),
            ("while", name("a"), (let("a", num(0)), let("b", num(5)))),
            ("try", (let("c", num(6)), ("raise", num(7))), "d", (let("f", num(8)),)),
        )
        told = [self.variable(x) for x in "abcdf"]
        self.assertEqual(told, [("int", 0), ("int", 5), ("int", 6), ("int", 7), ("int", 8)])

    def test_set(self):
        self.assert_run(let("a", num(1)), let("b", num(2)), ("set", "a", num(3)))
        self.assertEqual(self.world.plain.heap[0][1][-2:], (("a", ("int", 3)), ("b", ("int", 2))))

    def test_set_is_of_the_nearest_scope_that_has_it(self):
        inner = func((), ("set", "a", num(2)), ("set", "b", num(3)), ("set", "c", num(4)))
        outer = func(("a",), let("b", num(0)), do(call(inner)), show(name("a")), show(name("b")), show(name("c")))
        self.assert_run(let("a", num(9)), let("b", num(9)), let("c", num(9)), do(call(outer, num(0))))
        self.assert_seen("2", "3", "4")
        told = [self.variable(x) for x in "abc"]
        self.assertEqual(told, [("int", 9), ("int", 9), ("int", 4)])

    def test_set_takes_its_own_scope_first(self):
        self.assert_run(let("a", num(1)), do(call(func((), let("a", num(2)), ("set", "a", num(3)), show(name("a"))))))
        self.assert_seen("3")
        self.assertEqual(self.variable("a"), ("int", 1))

    def test_set_without_such_a_variable(self):
        self.assert_refused("no such name", ("set", "x", num(1)))
        self.assertIsNone(self.variable("x"))

    def test_set_looks_behind_evaluating(self):
        self.assert_refused("no such name", ("set", "x", said(num(1))))
        self.assert_seen("1")
        self.assertEqual(self.world.left(("set", "x", call(func((), ("raise", num(5)))))), ("over", False, ("int", 5)))
        self.assert_refused("wrong kind", ("set", "x", plus(num(1), TRUE)))


class ChangingTest(StatementTest):
    def setUp(self):
        StatementTest.setUp(self)
        self.assert_run(let("p", thing(a=num(1))), let("o", thing(name("p"), b=num(2))))

    def members(self, x):
        return self.world.plain.heap[self.variable(x)[1]][1]

    def test_put(self):
        self.assert_run(put(name("o"), "b", num(3)), put(name("o"), "a", num(4)), put(name("o"), "c", num(5)))
        told = [(x, member[1]) for x, member in self.members("o")]
        self.assertEqual(told, [("b", ("int", 3)), ("a", ("int", 4)), ("c", ("int", 5))])
        self.assertEqual(self.members("p"), (("a", ("data", ("int", 1), False)),))

    def test_put_refused(self):
        self.assert_run(("fix", name("p"), "a"), ("fix", name("o"), "b"), ("close", name("o")))
        self.assert_refused("fixed", put(name("o"), "a", num(1)))
        self.assert_refused("fixed", put(name("o"), "b", num(1)))
        self.assert_refused("closed", put(name("o"), "c", num(1)))
        self.assert_refused("no such name", ask(name("p"), "d"), put(name("o"), "d", num(1)))

    def test_put_from_the_left_to_the_right(self):
        self.assert_run(put(said(name("o")), "c", said(num(1))))
        self.assert_seen("<object>", "1")
        self.assert_refused("not an object", put(said(num(5)), "c", said(num(1))))
        self.assert_seen("5", "1")

    def test_put_at_a_setter(self):
        setter = func(("w",), show(name("w")), show(("bin", "==", name("me"), name("o"))), back(num(9)))
        self.assert_run(ask(name("p"), "s", NOTHING, setter), put(name("o"), "s", num(3)))
        self.assert_seen("3", "True")
        self.assertEqual([x for x, _ in self.members("o")], ["b"])

    def test_a_setter_that_raises(self):
        setter = func(("w",), ("raise", name("w")))
        self.assert_run(ask(name("p"), "s", NOTHING, setter))
        self.assertEqual(self.world.left(put(name("o"), "s", num(3))), ("over", False, ("int", 3)))

    def test_a_setter_of_each_kind(self):
        self.assert_run(ask(name("p"), "s", NOTHING, num(1)), ask(name("p"), "t", NOTHING, giving(NOTHING)))
        self.assert_refused("not a function", put(name("o"), "s", num(3)))
        self.assert_refused("wrong number", put(name("o"), "t", num(3)))
        self.assert_run(ask(name("p"), "r", NOTHING, REVOKER), put(name("o"), "r", num(3)))
        self.assertTrue(self.world.plain.revoked)

    def test_drop(self):
        self.assert_run(("drop", said(name("o")), "b"))
        self.assert_seen("<object>")
        self.assertEqual(self.members("o"), ())
        self.assert_refused("no such name", ("drop", name("o"), "b"))
        self.assert_refused("no such name", ("drop", name("o"), "a"))
        self.assert_refused("fixed", ("fix", name("p"), "a"), ("drop", name("p"), "a"))

    def test_fix(self):
        self.assert_run(("fix", said(name("o")), "b"))
        self.assert_seen("<object>")
        self.assertEqual(self.members("o"), (("b", ("data", ("int", 2), True)),))
        self.assert_refused("no such name", ("fix", name("o"), "a"))

    def test_close(self):
        self.assert_run(("close", said(name("o"))))
        self.assert_seen("<object>")
        self.assert_refused("closed", put(name("o"), "c", num(1)))

    def test_ask(self):
        self.assert_run(let("g", giving(num(1))), ask(name("o"), "b", name("g"), num(5)), ask(name("o"), "c"))
        told = (("b", ("ask", self.variable("g"), ("int", 5), False)), ("c", ("ask", NONE, NONE, False)))
        self.assertEqual(self.members("o"), told)

    def test_ask_from_the_left_to_the_right(self):
        self.assert_run(ask(said(name("o")), "c", said(num(1)), said(num(2))))
        self.assert_seen("<object>", "1", "2")
        self.assert_refused("no such name", ask(said(name("o")), "d", said(num(1)), name("missing")))
        self.assert_seen("<object>", "1")

    def test_ask_refused(self):
        self.assert_run(("fix", name("o"), "b"), ("close", name("o")))
        self.assert_refused("fixed", ask(name("o"), "b"))
        self.assert_refused("closed", ask(name("o"), "c"))

    def test_what_is_no_object(self):
        for v in NO_OBJECTS:
            for statement in (put(v, "a", num(1)), ("drop", v, "a"), ("fix", v, "a"), ("close", v), ask(v, "a")):
                self.assert_refused("not an object", statement)

    def test_functions_are_changed_like_objects(self):
        self.assert_run(
            let("f", giving(num(1))), put(name("f"), "a", num(1)), ask(name("f"), "b"), put(name("f"), "c", num(1)),
            ("fix", name("f"), "a"), ("drop", name("f"), "c"), ("close", name("f")),
        )
        func_made = self.world.plain.heap[self.variable("f")[1]]
        self.assertEqual(func_made[4:], ((("a", ("data", ("int", 1), True)), ("b", ("ask", NONE, NONE, False))), False))


class FlowTest(StatementTest):
    def test_a_block_in_its_order(self):
        self.assert_run(show(num(1)), show(num(2)), show(num(3)))
        self.assert_seen("1", "2", "3")
        self.assert_refused("no such name", show(num(1)), do(name("missing")), show(num(2)))
        self.assert_seen("1")

    def test_if(self):
        for test, line in ((TRUE, "yes"), (num(2), "yes"), (words("a"), "yes"), (thing(), "yes"), (REVOKER, "yes"),
                           (FALSE, "no"), (num(0), "no"), (NOTHING, "no"), (words(""), "no")):
            self.assert_run(("if", said(test), (show(words("yes")),), (show(words("no")),)), show(words("end")))
            self.assertEqual(self.world.seen("left")[-2:], [line, "end"])

    def test_if_without_a_second_block(self):
        self.assert_run(("if", FALSE, (show(words("yes")),), ()), show(words("end")))
        self.assert_seen("end")

    def test_if_evaluates_the_test_once(self):
        self.assert_run(("if", said(num(1)), (show(words("yes")),), ()))
        self.assert_seen("1", "yes")
        self.assert_refused("no such name", ("if", name("missing"), (show(words("yes")),), (show(words("no")),)))
        self.assert_seen()

    def test_while(self):
        step = ("set", "n", less_one("n"))
        self.assert_run(let("n", num(3)), ("while", said(name("n")), (show(words("round")), step)), show(words("end")))
        self.assert_seen("3", "round", "2", "round", "1", "round", "0", "end")
        self.assert_run(("while", FALSE, (show(words("round")),)))
        self.assert_seen()

    def test_while_ends_by_a_raise_or_a_return(self):
        self.assertEqual(self.world.left(("while", TRUE, (("raise", num(4)),))), ("over", False, ("int", 4)))
        self.assertEqual(self.world.left(("while", TRUE, (back(num(4)),))), ended(("int", 4)))
        self.assert_refused("no such name", let("n", num(1)), ("while", ("not", name("n")), (do(num(1)),)),
                            ("while", name("missing"), (do(num(1)),)))

    def test_many_rounds(self):
        step = ("set", "n", plus(name("n"), num(1)))
        self.assert_run(let("n", num(0)), ("while", less(name("n"), num(5000)), (step,)))
        self.assertEqual(self.variable("n"), ("int", 5000))

    def test_try_without_a_raise(self):
        self.assert_run(("try", (show(num(1)), show(num(2))), "x", (show(words("handler")),)), show(words("end")))
        self.assert_seen("1", "2", "end")
        self.assertIsNone(self.variable("x"))

    def test_try_with_a_raise(self):
        for e, value in ((num(5), ("int", 5)), (NOTHING, NONE), (words("t"), ("text", "t")), (FALSE, ("bool", False))):
            self.assert_run(
                ("try", (show(num(1)), ("raise", e), show(num(2))), "x", (show(words("handler")),)), show(words("end"))
            )
            self.assert_seen("1", "handler", "end")
            self.assertEqual(self.variable("x"), value)

    def test_try_raises_the_object_itself(self):
        self.assert_run(let("o", thing()), ("try", (("raise", name("o")),), "x", (do(num(1)),)))
        self.assertEqual(self.variable("x"), self.variable("o"))

    def test_the_variable_of_a_handler_is_put_as_by_let(self):
        inner = func((), ("try", (("raise", num(2)),), "x", (show(name("x")),)), show(name("x")))
        self.assert_run(let("x", num(1)), let("y", num(0)), do(call(inner)), show(name("x")))
        self.assert_seen("2", "2", "1")
        self.assert_run(("try", (("raise", num(3)),), "x", (do(num(1)),)))
        self.assertEqual(self.world.plain.heap[0][1][-2:], (("x", ("int", 3)), ("y", ("int", 0))))

    def test_try_of_what_is_refused(self):
        self.assert_run(attempt(do(plus(num(1), TRUE))), attempt(("set", "nothing", num(1))))
        self.assert_seen("!wrong kind", "!no such name")

    def test_try_around_calls(self):
        deep = func(("n",), ("if", name("n"), (back(call(name("deep"), less_one("n"))),), ()),
                    ("raise", words("bottom")))
        inside = (do(call(name("deep"), num(12))), show(words("not here")))
        self.assert_run(let("deep", deep), attempt(*inside), show(words("end")))
        self.assert_seen("!bottom", "end")
        self.assertEqual(self.world.plain.depth, 0)

    def test_tries_in_one_another(self):
        self.assert_run(
            ("try", (
                ("try", (("raise", num(1)),), "x", (show(name("x")), ("raise", num(2)))),
                show(words("not here")),
            ), "y", (show(name("y")),)),
        )
        self.assert_seen("1", "2")

    def test_what_a_handler_raises_is_not_its_own_to_handle(self):
        self.assertEqual(
            self.world.left(("try", (("raise", num(1)),), "x", (show(name("x")), ("raise", num(2))))),
            ("over", False, ("int", 2)),
        )
        self.assert_seen("1")

    def test_what_is_raised_behind_a_try_is_not_handled_by_it(self):
        self.assertEqual(
            self.world.left(("try", (show(num(1)),), "x", (show(words("handler")),)), ("raise", num(2))),
            ("over", False, ("int", 2)),
        )
        self.assert_seen("1")

    def test_a_return_passes_a_try(self):
        f = func((), ("try", (back(num(1)),), "x", (show(words("handler")),)), show(words("not here")))
        self.assert_run(show(call(f)))
        self.assert_seen("1")
        f = func((), ("try", (("raise", num(0)),), "x", (back(num(2)),)), show(words("not here")))
        self.assert_run(show(call(f)))
        self.assert_seen("2")
        self.assertEqual(self.world.left(("try", (back(num(3)),), "x", (show(words("handler")),))), ended(("int", 3)))
        self.assert_seen()

    def test_raise(self):
        self.assertEqual(self.world.left(("raise", said(num(1))), show(num(2))), ("over", False, ("int", 1)))
        self.assert_seen("1")
        self.assert_refused("no such name", ("raise", name("missing")))
        self.assertEqual(self.world.left(("raise", REVOKER)), ("over", False, ("revoker",)))

    def test_return(self):
        self.assertEqual(self.world.left(back(said(num(1))), show(num(2))), ended(("int", 1)))
        self.assert_seen("1")
        self.assertEqual(self.world.left(back(NOTHING)), DONE)
        self.assert_refused("no such name", back(name("missing")))

    def test_return_ends_the_call_alone(self):
        f = func((), ("while", TRUE, (("if", TRUE, (("try", (back(num(5)),), "x", (do(num(1)),)),), ()),)))
        self.assert_run(show(plus(call(f), num(1))), show(words("end")))
        self.assert_seen("6", "end")

    def test_return_from_the_midst_of_a_turn(self):
        loop = ("while", TRUE, (("if", TRUE, (back(num(5)),), ()),))
        self.assertEqual(self.world.left(loop, show(num(2))), ended(("int", 5)))
        self.assert_seen()

    def test_do(self):
        self.assert_run(do(said(num(1))), do(num(2)))
        self.assert_seen("1")

    def test_the_end_of_a_turn(self):
        self.assertEqual(self.world.left(do(num(5))), DONE)
        self.assertEqual(self.world.left(put(thing(), "a", num(1))), DONE)
        self.assertEqual(self.world.left(back(thing())), ended(("ref", len(self.world.plain.heap) - 1)))


class PrintTest(StatementTest):
    def test_texts(self):
        for e, line in (
            (NOTHING, "None"), (TRUE, "True"), (FALSE, "False"), (num(0), "0"), (num(-12), "-12"),
            (words("a b"), "a b"), (words(""), ""), (thing(), "<object>"), (giving(TRUE), "<function>"),
            (REVOKER, "<revoker>"),
        ):
            self.assert_run(show(e))
            self.assert_seen(line)

    def test_out(self):
        self.assert_run(show(words("a\nb")), show(num(1)))
        self.assertEqual(self.world.plain.outs, ["a\nb\n1\n", ""])
        self.world.right(show(num(2)))
        self.assertEqual(self.world.plain.outs, ["a\nb\n1\n", "2\n"])

    def full(self, many):
        """Fills out with so many characters."""
        lines, rest = divmod(many, 101)
        step = ("set", "n", less_one("n"))
        self.assert_run(let("n", num(lines)), ("while", name("n"), (show(words("x" * 100)), step)))
        if rest > 0:
            self.assert_run(show(words("y" * (rest - 1))))
        self.assertEqual(len(self.world.plain.outs[0]), many)

    def test_ten_thousand_characters(self):
        self.full(9900)
        self.assert_run(show(words("z" * 99)))
        out = self.world.plain.outs[0]
        self.assertEqual(len(out), 10000)
        self.assert_refused("too large", show(words("")))
        self.assert_refused("too large", show(words("more")))
        self.assertEqual(self.world.plain.outs, [out, ""])

    def test_one_more(self):
        self.full(9900)
        out = self.world.plain.outs[0]
        self.assert_refused("too large", show(words("z" * 100)), show(num(1)))
        self.assertEqual(self.world.plain.outs, [out, ""])
        self.assert_refused("too large", show(words("z" * 150)))
        self.assertEqual(self.world.plain.outs, [out, ""])
        # What is shorter still has its place.
        self.assert_run(show(words("z" * 98)), show(words("")))
        self.assertEqual(len(self.world.plain.outs[0]), 10000)

    def test_too_large_can_be_caught(self):
        self.full(9990)
        self.assert_run(("try", (show(words("z" * 10)),), "x", (show(words("small")),)))
        self.assertEqual(self.variable("x"), ("text", "too large"))
        self.assertEqual(self.world.plain.outs[0][-6:], "small\n")

    def test_the_other_side_has_an_out_of_its_own(self):
        self.full(10000)
        self.assertEqual(self.world.right(show(words("z" * 99))), DONE)
        self.assertEqual(len(self.world.plain.outs[1]), 100)


class CallTest(StatementTest):
    def scopes(self, before):
        return [made for made in self.world.plain.heap[before:] if made[0] == "scope"]

    def assert_scopes(self, e, *variables):
        """Evaluating makes scopes with these variables, each around the module's."""
        before = len(self.world.plain.heap)
        self.assert_run(do(e))
        self.assertEqual(self.scopes(before), [("scope", pairs, 0) for pairs in variables])

    def test_the_scope_of_a_call(self):
        self.assert_scopes(call(func((), do(num(1)))), (("me", NONE),))
        self.assert_scopes(
            call(func(("b", "a"), do(num(1))), num(1), num(2)), (("b", ("int", 1)), ("a", ("int", 2)), ("me", NONE))
        )

    def test_variables_of_the_body_come_behind_me(self):
        self.assert_scopes(
            call(func(("b",), let("a", num(3)), let("b", num(4))), num(1)),
            (("b", ("int", 4)), ("me", NONE), ("a", ("int", 3))),
        )

    def test_a_parameter_called_me(self):
        self.assert_scopes(call(func(("me",), do(num(1))), num(1)), (("me", ("int", 1)),))
        self.assert_scopes(
            send(thing(f=func(("me", "a"), do(num(1)))), "f", num(1), num(2)), (("me", ("int", 1)), ("a", ("int", 2)))
        )

    def test_each_call_has_a_scope_of_its_own(self):
        count = func((), let("n", num(0)), back(func((), ("set", "n", plus(name("n"), num(1))), back(name("n")))))
        self.assert_run(
            let("count", count), let("f", call(name("count"))), let("g", call(name("count"))),
            show(call(name("f"))), show(call(name("f"))), show(call(name("g"))),
        )
        self.assert_seen("1", "2", "1")

    def test_me_in_a_send(self):
        self.assert_run(let("o", thing(f=giving(name("me")))), let("p", thing(name("o"))))
        self.assertEqual(self.world.left(back(send(name("o"), "f"))), ended(self.variable("o")))
        self.assertEqual(self.world.left(back(send(name("p"), "f"))), ended(self.variable("p")))

    def test_me_in_a_send_to_a_function(self):
        self.assert_run(let("f", giving(num(1))), put(name("f"), "g", giving(name("me"))))
        self.assertEqual(self.world.left(back(send(name("f"), "g"))), ended(self.variable("f")))

    def test_me_in_a_getter_and_a_setter(self):
        setter = func(("w",), let("q", num(1)), ("set", "got", name("me")))
        self.assert_run(
            let("p", thing()), ask(name("p"), "x", giving(name("me")), setter),
            let("o", thing(name("p"))), let("got", NOTHING), put(name("o"), "x", num(1)),
        )
        self.assertEqual(self.world.left(back(get(name("o"), "x"))), ended(self.variable("o")))
        self.assertEqual(self.world.left(back(get(name("p"), "x"))), ended(self.variable("p")))
        self.assertEqual(self.variable("got"), self.variable("o"))

    def test_me_in_a_call(self):
        self.assert_run(let("o", thing(f=giving(name("me")))))
        self.assertEqual(self.world.left(back(call(get(name("o"), "f")))), DONE)
        self.assertEqual(self.world.left(back(call(giving(name("me"))))), DONE)
        # A call in a send has no receiver of its own, either.
        self.assert_run(put(name("o"), "g", giving(call(giving(name("me"))))))
        self.assertEqual(self.world.left(back(send(name("o"), "g"))), DONE)

    def test_me_of_the_module(self):
        self.assertEqual(World().plain.heap, [("scope", (("me", NONE),), -1)] * 2)
        self.assertEqual(self.world.left(back(name("me"))), DONE)
        self.assertEqual(self.world.left(let("me", num(2)), back(name("me"))), ended(("int", 2)))
        self.assertEqual(self.world.left(back(name("me"))), ended(("int", 2)))
        self.assertEqual(self.world.left(back(call(giving(name("me"))))), DONE)

    def test_me_can_be_set(self):
        self.assert_run(show(call(func(("a",), ("set", "me", name("a")), back(name("me"))), num(4))))
        self.assert_seen("4")
        self.assertEqual(self.variable("me"), NONE)

    def test_a_body_that_is_done_gives_none(self):
        self.assertEqual(self.world.left(back(call(func((), do(num(5)))))), DONE)
        self.assertEqual(self.world.left(back(call(func((), ("if", FALSE, (back(num(1)),), ()))))), DONE)


if __name__ == "__main__":
    unittest.main()
