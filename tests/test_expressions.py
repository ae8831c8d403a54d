"""What expressions give (p3), in a plain world of which one side runs."""

import unittest

from building import (
    DONE, FALSE, NONE, NOTHING, REVOKER, SAY, TRUE, World,
    ask, attempt, back, call, do, ended, func, get, giving, let, name, num, plus, put, refused, said, send, show, thing,
    words,
)

SIMPLE = (NOTHING, TRUE, FALSE, num(0), num(7), words(""), words("t"), REVOKER)
NO_OBJECTS = (NOTHING, TRUE, num(7), words("t"), REVOKER)


class ExpressionTest(unittest.TestCase):
    def setUp(self):
        self.world = World()
        self.assertEqual(self.world.left(SAY), DONE)

    def assert_gives(self, e, value, *statements):
        """Behind the statements, the expression gives a value."""
        with self.subTest(e=e):
            end = self.world.left(*statements, back(e))
            self.assertEqual(repr(end), repr(ended(value)))

    def assert_refused(self, e, text, *statements):
        with self.subTest(e=e):
            self.assertEqual(self.world.left(*statements, do(e)), refused(text))

    def assert_seen(self, *lines):
        self.assertEqual(self.world.seen("left"), list(lines))

    def object_at_the_end(self):
        return self.world.plain.heap[-1]


class SimpleTest(ExpressionTest):
    def test_const(self):
        for e in SIMPLE:
            self.assert_gives(e, e[1])

    def test_name(self):
        self.assert_gives(name("x"), ("int", 1), let("x", num(1)))
        self.assert_gives(name("x"), ("int", 2), let("x", num(2)))
        self.assert_gives(name("x"), ("int", 2))

    def test_name_of_the_nearest_scope(self):
        inner = func(("b",), back(plus(plus(name("a"), name("b")), name("c"))))
        outer = func(("a",), let("c", words("outer")), let("f", inner), back(call(name("f"), words("-"))))
        others = [let(x, words("x")) for x in "abc"]
        self.assert_gives(call(outer, words("a")), ("text", "a-outer"), *others)
        self.assert_gives(call(func((), back(name("a")))), ("text", "x"))

    def test_no_such_name(self):
        self.assert_refused(name("x"), "no such name")
        # A variable of a call is none of the module and of other calls.
        self.assert_refused(name("x"), "no such name", do(call(func((), let("x", num(1))))))
        self.assert_refused(call(giving(name("x"))), "no such name", do(call(func(("x",), do(name("x"))), num(1))))

    def test_code_runs_in_the_scope_in_which_the_func_was_made(self):
        other = func(("x",), back(call(name("f"))))
        self.assert_gives(call(other, num(2)), ("int", 1), let("x", num(1)), let("f", giving(name("x"))))
        self.assert_gives(call(name("f")), ("int", 3), let("x", num(3)))

    def test_bin(self):
        self.assert_gives(plus(num(2), num(3)), ("int", 5))
        self.assert_gives(("bin", "-", num(2), num(3)), ("int", -1))
        self.assert_gives(("bin", "*", num(2), num(3)), ("int", 6))
        self.assert_gives(("bin", "<", num(2), num(3)), ("bool", True))
        self.assert_gives(("bin", "<", num(3), num(2)), ("bool", False))
        self.assert_gives(("bin", "==", num(1), TRUE), ("bool", False))
        self.assert_gives(plus(words("a"), words("b")), ("text", "ab"))

    def test_bin_of_objects(self):
        made = (let("o", thing()), let("p", thing()), let("q", name("o")))
        self.assert_gives(("bin", "==", name("o"), name("q")), ("bool", True), *made)
        self.assert_gives(("bin", "==", name("o"), name("p")), ("bool", False), *made)
        self.assert_refused(plus(name("o"), name("o")), "wrong kind")

    def test_bin_refused(self):
        self.assert_refused(plus(num(1), words("a")), "wrong kind")
        self.assert_refused(plus(num(1), TRUE), "wrong kind")
        self.assert_refused(("bin", "-", words("a"), words("a")), "wrong kind")
        self.assert_refused(plus(num(2 ** 64 - 1), num(1)), "too large")
        self.assert_refused(plus(words("x" * 200), words("x")), "too large")

    def test_bin_from_the_left_to_the_right(self):
        self.assert_gives(("bin", "-", said(num(5)), said(num(3))), ("int", 2))
        self.assert_seen("5", "3")
        self.assert_refused(("bin", "-", said(num(5)), said(words("a"))), "wrong kind")
        self.assert_seen("5", "a")
        self.assert_refused(plus(name("missing"), said(num(3))), "no such name")
        self.assert_seen()
        self.assert_refused(plus(said(num(3)), name("missing")), "no such name")
        self.assert_seen("3")
        self.assert_gives(plus(plus(said(num(1)), said(num(2))), plus(said(num(3)), said(num(4)))), ("int", 10))
        self.assert_seen("1", "2", "3", "4")

    def test_not(self):
        for e, value in (
            (NOTHING, True), (FALSE, True), (num(0), True), (words(""), True),
            (TRUE, False), (num(1), False), (num(-1), False), (words("0"), False), (REVOKER, False), (thing(), False),
            (giving(TRUE), False),
        ):
            self.assert_gives(("not", e), ("bool", value))
            self.assert_gives(("not", ("not", e)), ("bool", not value))
        self.assert_gives(("not", said(num(1))), ("bool", False))
        self.assert_seen("1")

    def test_choice(self):
        for test in (TRUE, num(-3), words(" "), thing(), REVOKER):
            self.assert_gives(("choice", test, num(1), num(2)), ("int", 1))
        for test in (FALSE, num(0), NOTHING, words("")):
            self.assert_gives(("choice", test, num(1), num(2)), ("int", 2))

    def test_choice_runs_one_alone(self):
        self.assert_gives(("choice", said(TRUE), said(num(1)), said(num(2))), ("int", 1))
        self.assert_seen("True", "1")
        self.assert_gives(("choice", said(FALSE), said(num(1)), said(num(2))), ("int", 2))
        self.assert_seen("False", "2")
        self.assert_gives(("choice", TRUE, num(1), name("missing")), ("int", 1))
        self.assert_gives(("choice", FALSE, name("missing"), num(2)), ("int", 2))
        self.assert_refused(("choice", TRUE, name("missing"), num(2)), "no such name")
        self.assert_refused(("choice", name("missing"), num(1), num(2)), "no such name")

    def test_kind(self):
        for e, kind in (
            (NOTHING, "none"), (TRUE, "bool"), (num(3), "int"), (words("t"), "text"), (REVOKER, "revoker"),
            (thing(), "object"), (giving(TRUE), "function"),
        ):
            self.assert_gives(("kind", e), ("text", kind))
        self.assert_gives(("kind", said(num(1))), ("text", "int"))
        self.assert_seen("1")


class MakingTest(ExpressionTest):
    def test_an_object(self):
        self.assertEqual(self.world.left(let("o", thing())), DONE)
        self.assertEqual(self.object_at_the_end(), ("object", (), NONE, True))
        self.assertEqual(self.world.variables("left")["o"], ("ref", len(self.world.plain.heap) - 1))
        self.world.left(let("p", thing(name("o"), b=num(2), a=words("t"))))
        members = (("b", ("data", ("int", 2), False)), ("a", ("data", ("text", "t"), False)))
        self.assertEqual(self.object_at_the_end(), ("object", members, self.world.variables("left")["o"], True))

    def test_an_object_is_a_new_one_each_time(self):
        self.assert_gives(("bin", "==", thing(), thing()), ("bool", False))
        made = let("f", giving(thing()))
        self.assert_gives(("bin", "==", call(name("f")), call(name("f"))), ("bool", False), made)

    def test_an_object_from_the_left_to_the_right(self):
        before = len(self.world.plain.heap)
        e = ("object", (("b", said(num(1))), ("a", said(num(2)))), said(thing(c=said(num(3)))))
        self.assertEqual(self.world.left(let("o", e)), DONE)
        self.assert_seen("1", "2", "3", "<object>")
        # The parent was made ahead of the object, and each call has made a scope.
        kinds = [made[0] for made in self.world.plain.heap[before:]]
        self.assertEqual(kinds, ["scope", "scope", "scope", "object", "scope", "object"])
        self.assert_refused(("object", (("b", said(num(1))), ("a", name("missing"))), said(num(2))), "no such name")
        self.assert_seen("1")

    def test_parents(self):
        self.assertEqual(self.world.left(let("o", thing()), let("f", giving(TRUE))), DONE)
        for e in (name("o"), name("f")):
            self.world.left(let("p", thing(e)))
            self.assertEqual(self.object_at_the_end()[2], self.world.variables("left")[e[1]])
        self.world.left(let("p", thing(NOTHING)))
        self.assertEqual(self.object_at_the_end()[2], NONE)

    def test_parents_of_a_wrong_kind(self):
        for e in (TRUE, FALSE, num(0), num(1), words(""), words("t"), REVOKER):
            before = len(self.world.plain.heap)
            self.assert_refused(thing(e, a=num(1)), "wrong kind")
            self.assertEqual(len(self.world.plain.heap), before)
        # The parent is looked at when all parts have been evaluated.
        self.assert_refused(("object", (("a", said(num(1))),), said(num(2))), "wrong kind")
        self.assert_seen("1", "2")

    def test_twenty_members(self):
        pairs = tuple((x, num(at)) for at, x in enumerate("abcdefghijklmnopqrst"))
        self.assertEqual(self.world.left(let("o", ("object", pairs, ()))), DONE)
        self.assertEqual([x for x, _ in self.object_at_the_end()[1]], list("abcdefghijklmnopqrst"))
        self.assertEqual(self.world.left(put(name("o"), "u", num(1))), refused("too large"))

    def test_a_func(self):
        body = (show(num(1)), back(name("a")))
        self.assertEqual(self.world.left(let("f", ("func", ("a", "b"), body))), DONE)
        self.assertEqual(self.object_at_the_end(), ("func", ("a", "b"), body, 0, (), True))
        self.assert_seen()

    def test_the_scope_of_a_func(self):
        inner = func((), back(name("a")))
        self.world.left(let("f", func(("a",), back(inner))), let("g", call(name("f"), num(1))))
        heap = self.world.plain.heap
        self.assertEqual(heap[-2], ("scope", (("a", ("int", 1)), ("me", NONE)), 0))
        self.assertEqual(heap[-1], ("func", (), inner[2], len(heap) - 2, (), True))

    def test_a_func_is_an_object(self):
        made = (let("f", giving(num(1))), put(name("f"), "a", num(2)))
        self.assert_gives(get(name("f"), "a"), ("int", 2), *made)
        self.assert_gives(("names", name("f")), ("text", "a"))
        self.assert_gives(("parent", name("f")), NONE)
        self.assert_gives(call(name("f")), ("int", 1))
        self.assert_gives(get(thing(name("f")), "a"), ("int", 2))


class OperationTest(ExpressionTest):
    def setUp(self):
        ExpressionTest.setUp(self)
        end = self.world.left(
            let("p", thing(a=num(1), b=num(2))),
            let("o", thing(name("p"), b=num(3))),
            ask(name("p"), "me", giving(name("me")), NOTHING),
            ask(name("p"), "none", NOTHING, NOTHING),
            let("f", func(("x",), back(plus(name("x"), num(1))))),
            put(name("p"), "f", name("f")),
        )
        self.assertEqual(end, DONE)

    def test_get(self):
        self.assert_gives(get(name("o"), "b"), ("int", 3))
        self.assert_gives(get(name("o"), "a"), ("int", 1))
        self.assert_gives(get(name("p"), "b"), ("int", 2))
        self.assert_gives(get(name("o"), "none"), NONE)
        self.assert_refused(get(name("o"), "z"), "no such name")

    def test_the_receiver_of_a_get(self):
        variables = self.world.variables("left")
        self.assert_gives(get(name("o"), "me"), variables["o"])
        self.assert_gives(get(name("p"), "me"), variables["p"])

    def test_a_getter_that_raises(self):
        self.world.left(ask(name("o"), "z", func((), ("raise", num(9))), NOTHING))
        self.assertEqual(self.world.left(do(get(name("o"), "z"))), ("over", False, ("int", 9)))

    def test_a_getter_of_each_kind(self):
        self.world.left(ask(name("o"), "z", num(1)), ask(name("o"), "y", thing()), ask(name("o"), "x", name("f")))
        self.assert_refused(get(name("o"), "z"), "not a function")
        self.assert_refused(get(name("o"), "y"), "not a function")
        self.assert_refused(get(name("o"), "x"), "wrong number")
        self.assertFalse(self.world.plain.revoked)
        self.assert_gives(get(name("o"), "z"), NONE, ask(name("o"), "z", REVOKER))
        self.assertTrue(self.world.plain.revoked)

    def test_has(self):
        for o, x in (("o", "b"), ("o", "a"), ("o", "me"), ("p", "a"), ("p", "none")):
            self.assert_gives(("has", name(o), x), ("bool", True))
        for o in ("o", "p", "f"):
            self.assert_gives(("has", name(o), "z"), ("bool", False))

    def test_names(self):
        self.assert_gives(("names", name("o")), ("text", "b"))
        self.assert_gives(("names", name("p")), ("text", "a b me none f"))
        self.assert_gives(("names", thing()), ("text", ""))
        self.assert_gives(("names", name("f")), ("text", ""))

    def test_look(self):
        for o, x, value in (("o", "b", "data"), ("p", "me", "ask"), ("p", "none", "ask")):
            self.assert_gives(("look", name(o), x), ("text", value))
        self.assert_gives(("look", name("o"), "a"), NONE)
        self.assert_gives(("look", name("o"), "b"), ("text", "fixed data"), ("fix", name("o"), "b"))
        self.assert_gives(("look", name("p"), "me"), ("text", "fixed ask"), ("fix", name("p"), "me"))

    def test_parent(self):
        self.assert_gives(("parent", name("o")), self.world.variables("left")["p"])
        self.assert_gives(("parent", name("p")), NONE)
        self.assert_gives(("parent", name("f")), NONE)

    def test_is_open(self):
        for o in ("o", "f"):
            self.assert_gives(("is_open", name(o)), ("bool", True))
            self.assert_gives(("is_open", name(o)), ("bool", False), ("close", name(o)))

    def test_the_object_is_evaluated_once(self):
        for e in (
            get(said(name("o")), "b"), ("has", said(name("o")), "b"), ("names", said(name("o"))),
            ("look", said(name("o")), "b"), ("parent", said(name("o"))), ("is_open", said(name("o"))),
            send(said(name("o")), "f", num(1)),
        ):
            self.assertEqual(self.world.left(do(e))[:2], ("over", True))
            self.assert_seen("<object>")

    def test_what_is_no_object(self):
        for v in NO_OBJECTS:
            for e in (
                get(v, "a"), ("has", v, "a"), ("names", v), ("look", v, "a"), ("parent", v), ("is_open", v),
                send(v, "a"), send(v, "a", num(1)),
            ):
                self.assert_refused(e, "not an object")
            if v != REVOKER:
                self.assert_refused(call(v), "not a function")
                self.assert_refused(call(v, num(1), num(2)), "not a function")
        self.assertFalse(self.world.plain.revoked)

    def test_call(self):
        self.assert_gives(call(name("f"), num(1)), ("int", 2))
        self.assert_gives(call(func((), do(num(1)))), NONE)
        self.assert_gives(call(giving(name("me"))), NONE)
        self.assert_gives(call(get(name("o"), "f"), num(1)), ("int", 2))
        self.assert_refused(call(name("o")), "not a function")
        self.assert_refused(call(name("missing")), "no such name")

    def test_call_with_a_wrong_number_of_arguments(self):
        for args in ((), (num(1), num(2)), (num(1),) * 4):
            before = len(self.world.plain.heap)
            self.assert_refused(call(name("f"), *args), "wrong number")
            self.assertEqual(len(self.world.plain.heap), before)
        self.assert_refused(call(giving(num(1)), num(1)), "wrong number")

    def test_call_with_four_arguments(self):
        four = func(("a", "b", "c", "d"), back(plus(plus(name("a"), name("b")), plus(name("c"), name("d")))))
        self.assert_gives(call(four, words("1"), words("2"), words("3"), words("4")), ("text", "1234"))

    def test_call_from_the_left_to_the_right(self):
        self.world.left(let("g", func(("x", "y"), show(words("g")), back(name("y")))))
        self.assert_gives(call(said(name("g")), said(num(1)), said(num(2))), ("int", 2))
        self.assert_seen("<function>", "1", "2", "g")
        self.assert_refused(call(said(num(3)), said(num(1))), "not a function")
        self.assert_seen("3", "1")
        self.assert_refused(call(said(name("g")), said(num(1)), name("missing")), "no such name")
        self.assert_seen("<function>", "1")

    def test_a_call_of_the_revoker(self):
        for e in (call(said(REVOKER)), call(REVOKER, num(1), said(num(2)))):
            self.world.plain.revoked = False
            self.assert_gives(e, NONE)
            self.assertTrue(self.world.plain.revoked)
        self.assert_seen("<revoker>", "2")
        self.assert_gives(call(REVOKER), NONE)

    def test_send(self):
        self.assert_gives(send(name("o"), "f", num(1)), ("int", 2))
        self.assert_gives(send(name("p"), "f", num(4)), ("int", 5))
        self.assert_refused(send(name("o"), "z", said(num(1))), "no such name")
        self.assert_refused(send(name("o"), "b", said(num(1))), "not a function")
        self.assert_refused(send(name("o"), "f"), "wrong number")
        # The arguments are evaluated when the function was found.
        self.assert_seen("1")

    def test_the_receiver_of_a_send(self):
        self.world.left(put(name("p"), "g", giving(name("me"))))
        variables = self.world.variables("left")
        self.assert_gives(send(name("o"), "g"), variables["o"])
        self.assert_gives(send(name("p"), "g"), variables["p"])
        self.assert_gives(call(get(name("o"), "g")), NONE)

    def test_send_from_the_left_to_the_right(self):
        getter = func((), show(words("getter")), back(name("g")))
        self.world.left(let("g", func(("x", "y"), show(words("g")), back(name("me")))), ask(name("p"), "z", getter))
        self.assert_gives(send(said(name("o")), "z", said(num(1)), said(num(2))), self.world.variables("left")["o"])
        self.assert_seen("<object>", "getter", "1", "2", "g")

    def test_send_to_a_member_that_changes_behind_it(self):
        change = func((), put(name("o"), "h", giving(num(2))), back(num(0)))
        self.world.left(put(name("o"), "h", func(("x",), back(num(1)))))
        self.assert_gives(send(name("o"), "h", call(change)), ("int", 1))
        self.assert_gives(send(name("o"), "h"), ("int", 2))

    def test_send_to_a_revoker_that_is_a_member(self):
        self.assert_gives(send(thing(x=REVOKER), "x", num(1)), NONE)
        self.assertTrue(self.world.plain.revoked)

    def test_what_is_refused_is_a_text_that_can_be_caught(self):
        self.world.left(attempt(do(get(num(1), "a"))), attempt(do(call(num(1)))), attempt(do(name("zz"))))
        self.assert_seen("!not an object", "!not a function", "!no such name")


if __name__ == "__main__":
    unittest.main()
