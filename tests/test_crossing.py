"""Operations across the plain world (q1 to q3), and what it does of q5 and m2."""

import unittest

from building import (
    DONE, NONE, NOTHING, REVOKER, TRUE, World,
    ask, at_depth, attempt, back, call, do, ended, func, get, giving, less_one, let, name, num, put, refused, revoking,
    send, show, thing, words,
)

from membrane.plain import Plain

SIDES = ("left", "right")


def asking(f, text, *statements):
    """A function of n that runs the statements; it returns what f gives of one less, and for 0 the text."""
    return func(("n",), *statements, ("if", name("n"), (back(call(name(f), less_one("n"))),), ()), back(words(text)))


class CrossingTest(unittest.TestCase):
    def worlds(self, left=(), right=()):
        """For each side a new world in which it is the one that asks; the first policy is that of the one that asks."""
        return (
            Asking(self, World(left, right), "left", "right"),
            Asking(self, World(right, left), "right", "left"),
        )


class Asking:
    """A world, the side that asks and the owner of what it asks about."""

    def __init__(self, test, world, asks, owner):
        self.test = test
        self.world = world
        self.plain = world.plain
        self.asks = asks
        self.owner = owner

    def ask(self, *statements):
        return self.world.turn(self.asks, statements)

    def own(self, *statements):
        return self.world.turn(self.owner, statements)

    def give(self, *names):
        """The owner hands over variables."""
        for x in names:
            self.test.assertIs(self.plain.hand(self.owner, x), True)

    def lend(self, *names):
        """The side that asks hands over variables."""
        for x in names:
            self.test.assertIs(self.plain.hand(self.asks, x), True)

    def gone(self, side):
        return self.plain.gone[0 if side == "left" else 1]

    def numbers(self, *names):
        """The numbers in the heap of variables of the owner."""
        told = self.world.variables(self.owner)
        return [told[x][1] for x in names]

    def own_numbers(self, *names):
        """The numbers in the heap of variables of the side that asks."""
        told = self.world.variables(self.asks)
        return [told[x][1] for x in names]

    def done(self, *statements):
        self.same(self.ask(*statements), DONE)

    def owner_done(self, *statements):
        self.same(self.own(*statements), DONE)

    def gives(self, e, value):
        self.same(self.ask(back(e)), ended(value))

    def refused(self, text, *statements):
        self.same(self.ask(*statements), refused(text))

    def seen(self, *lines):
        """What the side that asks has printed since the last time."""
        self.same(self.world.seen(self.asks), list(lines))

    def owner_seen(self, *lines):
        self.same(self.world.seen(self.owner), list(lines))

    def same(self, told, wanted):
        # 1 and True are equal in Python, but not here.
        self.test.assertEqual(repr(told), repr(wanted), f"{self.asks} asks")


class FieldsTest(unittest.TestCase):
    def test_at_the_beginning(self):
        plain = Plain((), ())
        module = ("scope", (("me", NONE),), -1)
        self.assertEqual(plain.heap, [module, module])
        self.assertEqual(plain.owners, ["left", "right"])
        self.assertEqual(plain.modules, (0, 1))
        self.assertEqual(plain.gone, ([], []))
        self.assertEqual(plain.outs, ["", ""])
        self.assertIs(type(plain.depth), int)
        self.assertEqual(plain.depth, 0)
        self.assertIs(plain.revoked, False)

    def test_kinds_of_values(self):
        plain = Plain((), (("readonly",),))
        plain.run("right", (let("o", thing()), let("f", giving(num(1))), do(call(name("f")))), 100)
        plain.hand("right", "o")
        for field, kind in (("heap", list), ("owners", list), ("modules", tuple), ("gone", tuple), ("outs", list)):
            self.assertIs(type(getattr(plain, field)), kind)
        self.assertEqual([type(side) for side in plain.gone], [list, list])
        self.assertEqual([type(made) for made in plain.heap], [tuple] * len(plain.heap))
        self.assertEqual(len(plain.owners), len(plain.heap))

    def test_worlds_share_nothing(self):
        first, second = Plain((), ()), Plain((), ())
        first.run("left", (let("o", thing()), show(num(1))), 100)
        first.hand("left", "o")
        first.revoke()
        self.assertEqual((second.heap, second.gone, second.outs), (Plain((), ()).heap, ([], []), ["", ""]))
        self.assertIs(second.revoked, False)

    def test_what_is_no_policy_is_not_looked_at(self):
        plain = Plain(5, None)
        self.assertEqual(plain.run("left", (back(num(1)),), 100), ended(("int", 1)))

    def test_an_empty_block_does_nothing(self):
        self.assertEqual(Plain((), ()).run("left", (), 0), DONE)

    def test_text(self):
        world = World()
        world.left(let("o", thing()), let("f", giving(num(1))))
        world.made("left", o=thing())
        for v, text in (
            (NONE, "None"), (("bool", True), "True"), (("bool", False), "False"), (("int", -7), "-7"),
            (("int", 0), "0"), (("text", "a b"), "a b"), (("text", ""), ""), (("revoker",), "<revoker>"),
            (world.variables("left")["o"], "<object>"), (world.variables("left")["f"], "<function>"),
            (world.variables("right")["o"], "<object>"),
        ):
            self.assertEqual(world.plain.text(v), text)


class OwnersTest(CrossingTest):
    def test_what_a_side_makes_is_its_own(self):
        for at in self.worlds():
            before = len(at.plain.heap)
            at.done(let("o", thing()), let("f", func((), let("x", thing()))), do(call(name("f"))))
            self.assertEqual([made[0] for made in at.plain.heap[before:]], ["object", "func", "scope", "object"])
            self.assertEqual(at.plain.owners[before:], [at.asks] * 4)

    def test_what_a_func_makes_is_its_owners(self):
        for at in self.worlds():
            at.owner_done(let("f", func(("a",), let("x", thing(a=name("a"))), back(giving(name("x"))))))
            at.give("f")
            before = len(at.plain.heap)
            at.done(let("g", call(name("f"), thing())), do(call(name("g"))))
            kinds = [made[0] for made in at.plain.heap[before:]]
            self.assertEqual(kinds, ["object", "scope", "object", "func", "scope"])
            self.assertEqual(at.plain.owners[before:], [at.asks] + [at.owner] * 4)

    def test_a_func_prints_to_its_owners_out(self):
        for at in self.worlds():
            at.owner_done(let("f", func(("a",), show(name("a")))))
            at.give("f")
            at.done(show(num(1)), do(call(name("f"), num(2))), show(num(3)))
            at.seen("1", "3")
            at.owner_seen("2")

    def test_each_side_has_a_module_of_its_own(self):
        for at in self.worlds():
            at.done(let("x", num(1)))
            self.assertEqual(at.own(do(name("x"))), refused("no such name"))
            at.owner_done(let("x", num(2)), let("f", giving(name("x"))))
            at.give("f")
            at.gives(name("x"), ("int", 1))
            at.gives(call(name("f")), ("int", 2))


class HandTest(CrossingTest):
    def test_values(self):
        for at in self.worlds():
            for e in (NOTHING, TRUE, num(5), words("t"), REVOKER):
                at.owner_done(let("x", e))
                at.give("x")
                self.assertEqual(at.world.variables(at.asks)["x"], e[1])
            self.assertEqual(at.plain.gone, ([], []))

    def test_an_object_is_itself(self):
        for at in self.worlds():
            at.owner_done(let("o", thing(a=num(5))))
            at.give("o")
            self.assertEqual(at.world.variables(at.asks)["o"], at.world.variables(at.owner)["o"])
            at.gives(get(name("o"), "a"), ("int", 5))
            at.done(put(name("o"), "a", num(6)))
            self.assertEqual(at.own(back(get(name("o"), "a"))), ended(("int", 6)))

    def test_the_variable_is_put_as_by_let(self):
        for at in self.worlds():
            at.owner_done(let("x", num(1)), let("y", num(2)))
            at.done(let("x", num(5)), let("z", num(6)))
            at.give("x", "y")
            module = at.plain.heap[at.plain.modules[SIDES.index(at.asks)]]
            told = (("me", NONE), ("x", ("int", 1)), ("z", ("int", 6)), ("y", ("int", 2)))
            self.assertEqual(module, ("scope", told, -1))
            own = at.plain.heap[at.plain.modules[SIDES.index(at.owner)]]
            self.assertEqual(own[1], (("me", NONE), ("x", ("int", 1)), ("y", ("int", 2))))

    def test_me_of_the_module(self):
        for at in self.worlds():
            at.done(let("me", num(3)))
            at.give("me")
            self.assertEqual(at.world.variables(at.asks)["me"], NONE)

    def test_without_the_variable(self):
        for at in self.worlds():
            at.done(let("x", thing()))
            before = (list(at.plain.heap), at.plain.gone)
            self.assertIs(at.plain.hand(at.owner, "x"), False)
            self.assertIs(at.plain.hand(at.owner, "y"), False)
            self.assertEqual((at.plain.heap, at.plain.gone), before)

    def test_variables_of_calls_are_none_of_the_module(self):
        for at in self.worlds():
            at.owner_done(do(call(func((), let("x", num(1))))))
            self.assertIs(at.plain.hand(at.owner, "x"), False)

    def test_behind_revoking(self):
        for at in self.worlds():
            at.owner_done(let("o", thing()), let("x", num(1)))
            at.plain.revoke()
            before = list(at.plain.heap)
            self.assertIs(at.plain.hand(at.owner, "o"), False)
            self.assertIs(at.plain.hand(at.owner, "x"), False)
            self.assertIs(at.plain.hand(at.owner, "zz"), False)
            self.assertEqual((at.plain.heap, at.plain.gone), (before, ([], [])))

    def test_numbers(self):
        for at in self.worlds():
            at.owner_done(let("a", thing()), let("b", giving(num(1))), let("c", thing()), let("x", num(1)))
            at.give("c", "x", "a", "c", "b", "a")
            self.assertEqual(at.gone(at.owner), at.numbers("c", "a", "b"))
            self.assertEqual(at.gone(at.asks), [])

    def test_what_comes_back_has_no_number_of_the_other_side(self):
        for at in self.worlds():
            at.owner_done(let("a", thing()))
            at.give("a")
            at.lend("a")
            self.assertEqual(at.gone(at.owner), at.numbers("a"))
            self.assertEqual(at.gone(at.asks), [])

    def test_an_object_in_another_one_is_not_handed_over_with_it(self):
        for at in self.worlds():
            at.owner_done(let("a", thing()), let("b", thing(name("a"), x=thing())))
            at.give("b")
            self.assertEqual(at.gone(at.owner), at.numbers("b"))


class NumbersTest(CrossingTest):
    """The values of an operation and of its end are handed over in their order, each once (part 2 and 6)."""

    def setUp(self):
        self.made = (let("m", thing()), let("n", giving(num(1))), let("o", thing()), let("p", thing()))

    def test_the_values_of_each_operation(self):
        setter = func(("w",), do(num(1)))
        for names, statement in (
            (["n"], put(name("t"), "x", name("n"))),
            (["n", "m"], ask(name("t"), "x", name("n"), name("m"))),
            (["m", "n"], ask(name("t"), "x", name("m"), name("n"))),
            (["m"], ask(name("t"), "x", NOTHING, name("m"))),
            (["n"], ask(name("t"), "x", name("n"), num(1))),
            (["p", "n", "o", "m"], do(call(name("f"), name("p"), name("n"), name("o"), name("m")))),
            (["o"], do(call(name("f"), num(1), name("o"), name("o"), TRUE))),
            ([], do(get(name("t"), "z"))),
            ([], do(("has", name("t"), "z"))),
            ([], ("drop", name("t"), "z")),
            ([], do(("look", name("t"), "z"))),
            ([], ("fix", name("t"), "z")),
            ([], do(("names", name("t")))),
            ([], do(("parent", name("t")))),
            ([], ("close", name("t"))),
            ([], do(("is_open", name("t")))),
            ([], do(("kind", name("t")))),
            ([], put(name("t"), "s", num(1))),
        ):
            for at in self.worlds():
                at.owner_done(
                    let("t", thing(z=num(1))), ask(name("t"), "s", NOTHING, setter),
                    let("f", func(("a", "b", "c", "d"), do(num(1)))),
                )
                at.give("t", "f")
                at.done(*self.made)
                at.done(statement)
                self.assertEqual(at.gone(at.asks), at.own_numbers(*names), statement)
                self.assertEqual(at.gone(at.owner), at.numbers("t", "f"))

    def test_the_receiver_crosses_with_an_operation_on_a_parent(self):
        for statement in (do(get(name("k"), "z")), put(name("k"), "y", num(1)), put(name("k"), "z", name("k"))):
            for at in self.worlds():
                at.owner_done(let("t", thing(z=num(1))))
                at.give("t")
                at.done(let("k", thing(name("t"))), statement)
                self.assertEqual(at.gone(at.asks), at.own_numbers("k"), statement)

    def test_a_put_hands_over_the_value_ahead_of_the_receiver(self):
        for at in self.worlds():
            at.owner_done(let("t", thing()))
            at.give("t")
            at.done(*self.made)
            at.done(let("k", thing(name("t"))), put(name("k"), "y", name("n")))
            self.assertEqual(at.gone(at.asks), at.own_numbers("n", "k"))
            self.assertEqual([x for x, _ in at.plain.heap[at.own_numbers("k")[0]][1]], ["y"])

    def test_a_send_hands_over_the_receiver_ahead_of_the_arguments(self):
        for at in self.worlds():
            at.owner_done(let("f", func(("a", "b"), do(num(1)))))
            at.give("f")
            at.done(*self.made)
            at.done(put(name("m"), "f", name("f")), do(send(name("m"), "f", name("p"), name("n"))))
            self.assertEqual(at.gone(at.asks), at.own_numbers("m", "p", "n"))

    def test_what_is_given_and_raised_is_handed_over_back(self):
        for at in self.worlds():
            at.owner_done(
                let("r", thing()), let("v", giving(num(1))), let("q", thing()), let("t", thing(name("q"), r=name("r"))),
                let("f", func((), ("raise", name("v")))),
            )
            at.give("t", "f")
            at.done(
                let("x", get(name("t"), "r")), ("try", (do(call(name("f"))),), "y", (do(num(1)),)),
                do(("parent", name("t"))),
            )
            self.assertEqual(at.gone(at.owner), at.numbers("t", "f", "r", "v", "q"))
            self.assertEqual(at.own_numbers("x", "y"), at.numbers("r", "v"))
            at.done(do(get(name("t"), "r")), do(("parent", name("t"))))
            self.assertEqual(len(at.gone(at.owner)), 5)

    def test_what_comes_back_is_itself_and_has_no_number(self):
        for at in self.worlds():
            at.owner_done(let("f", func(("a",), back(name("a")))))
            at.give("f")
            at.done(let("o", thing()), show(("bin", "==", call(name("f"), name("o")), name("o"))))
            at.seen("True")
            self.assertEqual(at.gone(at.asks), at.own_numbers("o"))
            self.assertEqual(at.gone(at.owner), at.numbers("f"))

    def test_what_is_thrown_away_was_handed_over(self):
        for at in self.worlds():
            at.owner_done(let("r", thing()), let("f", giving(name("r"))), let("g", func(("w",), back(name("r")))))
            at.give("f", "g")
            at.done(do(call(name("f"))))
            self.assertEqual(at.gone(at.owner), at.numbers("f", "g", "r"))
            # The end of a setter of the owner is handed over, and then it is not used.
            at.owner_done(let("s", thing()), let("h", func(("w",), back(name("s")))))
            at.give("h")
            at.done(let("k", thing()), ask(name("k"), "x", NOTHING, name("h")), put(name("k"), "x", num(1)))
            self.assertEqual(at.gone(at.owner)[3:], at.numbers("h", "s"))

    def test_the_end_of_a_setter_that_the_owner_calls_is_none(self):
        for at in self.worlds():
            at.owner_done(
                let("r", thing()), let("t", thing()), ask(name("t"), "x", NOTHING, func(("w",), back(name("r")))),
            )
            at.give("t")
            at.done(put(name("t"), "x", num(1)))
            self.assertEqual(at.gone(at.owner), at.numbers("t"))

    def test_rules_for_one_object_count_these_numbers(self):
        for n in range(4):
            for at in self.worlds(right=(("only", n, ("hide", "x")),)):
                for x in ("a", "b", "c"):
                    at.owner_done(let(x, thing(x=num(1))))
                at.give("b", "c", "a")
                told = [at.ask(back(("has", name(x), "x"))) for x in ("b", "c", "a")]
                self.assertEqual(told, [ended(("bool", at_n != n)) for at_n in range(3)])


class PartsTest(CrossingTest):
    """The six parts of an operation on an object of the other side, each ahead of the next one."""

    OPERATIONS = (
        do(get(name("t"), "x")), put(name("t"), "x", name("m")), do(("has", name("t"), "x")), ("drop", name("t"), "x"),
        do(("look", name("t"), "x")), ("fix", name("t"), "x"), ask(name("t"), "x", name("m"), NOTHING),
        do(("names", name("t"))), do(("parent", name("t"))), ("close", name("t")), do(("is_open", name("t"))),
        do(call(name("t"), name("m"))),
    )

    def prepared(self, policy=()):
        worlds = self.worlds(right=policy)
        for at in worlds:
            at.owner_done(let("t", thing(x=num(1), y=num(2))), let("f", func((), show(words("done")))))
            at.give("t", "f")
            at.done(let("m", thing()))
        return worlds

    def test_1_revoked_is_ahead_of_all(self):
        for policy in ((), (("hide", "x"), ("readonly",), ("nocall",))):
            for operation in self.OPERATIONS:
                for at in self.prepared(policy):
                    at.plain.revoke()
                    before = list(at.plain.heap)
                    at.refused("revoked", operation)
                    self.assertEqual(at.plain.heap, before)
                    # Nothing was handed over.
                    self.assertEqual(at.gone(at.asks), [])

    def test_1_revoked_is_ahead_of_too_deep(self):
        for at in self.prepared():
            at.done(let("deep", at_depth("deep", do(get(name("t"), "x")))))
            at.plain.revoke()
            at.refused("revoked", do(call(name("deep"), num(20))))

    def test_2_values_are_handed_over_ahead_of_what_is_denied(self):
        for policy, operation in (
            ((("readonly",),), put(name("t"), "x", name("m"))), ((("protect", "x"),), put(name("t"), "x", name("m"))),
            ((("hide", "z"),), ask(name("t"), "z", NOTHING, name("m"))),
            ((("nocall",),), do(call(name("f"), name("m")))),
        ):
            for at in self.prepared(policy):
                at.refused("denied", operation)
                self.assertEqual(at.gone(at.asks), at.own_numbers("m"))

    def test_2_values_are_handed_over_ahead_of_what_is_answered(self):
        for at in self.prepared((("hide", "x"),)):
            at.refused("no such name", do(get(thing(name("t")), "x")))
            self.assertEqual(at.gone(at.asks), [len(at.plain.heap) - 1])

    def test_2_values_are_handed_over_ahead_of_too_deep(self):
        for at in self.prepared():
            at.done(let("deep", at_depth("deep", do(call(name("f"), name("m"))))))
            at.refused("too deep", do(call(name("deep"), num(20))))
            self.assertEqual(at.gone(at.asks), at.own_numbers("m"))

    def test_3_names_are_answered(self):
        for at in self.prepared():
            at.gives(("names", name("t")), ("text", "x y"))
        for at in self.prepared((("hide", "x"), ("hide", "z"))):
            at.gives(("names", name("t")), ("text", "y"))
            self.assertEqual(at.own(back(("names", name("t")))), ended(("text", "x y")))
        for at in self.prepared((("hide", "x"), ("hide", "y"))):
            at.gives(("names", name("t")), ("text", ""))
            at.gives(("names", name("f")), ("text", ""))
        for at in self.prepared((("only", 1, ("hide", "x")), ("only", 0, ("hide", "y")))):
            at.gives(("names", name("t")), ("text", "x"))

    def test_3_hidden_names_are_answered(self):
        for at in self.prepared((("hide", "x"),)):
            at.refused("no such name", do(get(name("t"), "x")))
            at.gives(("has", name("t"), "x"), ("bool", False))
            at.gives(("look", name("t"), "x"), NONE)
            at.gives(get(name("t"), "y"), ("int", 2))
            at.gives(("has", name("t"), "y"), ("bool", True))
            at.gives(("look", name("t"), "y"), ("text", "data"))

    def test_3_what_is_denied(self):
        named = (put(name("t"), "x", num(1)), ("drop", name("t"), "x"), ("fix", name("t"), "x"), ask(name("t"), "x"))
        for policy in ((("hide", "x"),), (("protect", "x"),), (("readonly",),), (("only", 0, ("readonly",)),)):
            for operation in named:
                for at in self.prepared(policy):
                    before = list(at.plain.heap)
                    at.refused("denied", operation)
                    self.assertEqual(at.plain.heap, before)
        for at in self.prepared((("readonly",),)):
            at.refused("denied", ("close", name("t")))
        for at in self.prepared((("nocall",),)):
            at.refused("denied", do(call(name("f"))))
            at.refused("denied", do(call(name("t"))))
            at.owner_seen()
        for at in self.prepared((("hide", "x"), ("nocall",), ("only", 1, ("readonly",)))):
            at.done(put(name("t"), "y", num(5)), ("close", name("t")))

    def test_3_what_is_denied_can_be_caught(self):
        for at in self.prepared((("nocall",),)):
            at.done(attempt(do(call(name("f")))), show(words("end")))
            at.seen("!denied", "end")

    def test_3_the_owner_is_not_asked_about_what_it_does_itself(self):
        policy = (("hide", "x"), ("protect", "y"), ("readonly",), ("nocall",))
        for at in self.prepared(policy):
            at.owner_done(put(name("t"), "x", num(7)), do(call(name("f"))))
            self.assertEqual(at.own(back(get(name("t"), "x"))), ended(("int", 7)))
        # Nor about what it does for the other side.
        for at in self.prepared(policy[:3]):
            change = (put(name("t"), "x", num(8)), ("drop", name("t"), "y"))
            at.owner_done(let("g", func((), *change, back(get(name("t"), "x")))))
            at.give("g")
            at.gives(call(name("g")), ("int", 8))
        for at in self.prepared((("only", 0, ("hide", "x")),)):
            # A parent is the owner's own: the rules for its number do not count there.
            at.owner_done(let("k", thing(name("t"))))
            at.give("k")
            at.gives(get(name("k"), "x"), ("int", 1))

    def test_3_the_policy_of_the_side_that_asks_is_not_asked(self):
        for at in self.worlds(left=(("hide", "x"), ("readonly",), ("nocall",))):
            at.owner_done(let("t", thing(x=num(1))), let("f", giving(num(2))))
            at.give("t", "f")
            at.done(put(name("t"), "x", num(3)), show(get(name("t"), "x")), show(call(name("f"))))
            at.seen("3", "2")

    def test_3_is_ahead_of_too_deep(self):
        policy = (("hide", "x"), ("readonly",), ("nocall",))
        for at in self.prepared(policy):
            at.done(let("deep", at_depth(
                "deep", show(("names", name("t"))), show(("has", name("t"), "x")), show(("look", name("t"), "x")),
                attempt(do(get(name("t"), "x"))), attempt(put(name("t"), "x", num(1))), attempt(("close", name("t"))),
                attempt(do(call(name("f")))), attempt(do(get(name("t"), "y"))), attempt(do(("has", name("t"), "y"))),
            )))
            at.done(do(call(name("deep"), num(20))))
            at.seen("y", "False", "None", "!no such name", "!denied", "!denied", "!denied", "!too deep", "!too deep")

    def test_4_with_depth_20_it_is_too_deep(self):
        for depth, line in ((19, "1"), (20, "!too deep")):
            for at in self.prepared():
                at.done(let("deep", at_depth("deep", attempt(show(get(name("t"), "x"))))))
                at.done(do(call(name("deep"), num(depth))))
                at.seen(line)

    def test_4_each_operation_is_too_deep(self):
        for operation in self.OPERATIONS:
            if operation != do(("names", name("t"))):
                for at in self.prepared():
                    at.done(let("deep", at_depth("deep", operation)))
                    before = at.plain.heap[at.numbers("t")[0]]
                    at.refused("too deep", do(call(name("deep"), num(20))))
                    self.assertEqual(at.plain.heap[at.numbers("t")[0]], before)

    def test_5_a_call_of_the_owner_is_two_deeper(self):
        for depth, line in ((18, "done"), (19, None)):
            for at in self.prepared():
                at.done(let("deep", at_depth("deep", attempt(do(call(name("f")))))))
                at.done(do(call(name("deep"), num(depth))))
                at.seen(*([] if line else ["!too deep"]))
                at.owner_seen(*([line] if line else []))

    def test_5_the_depth_is_what_it_was(self):
        for at in self.prepared():
            at.done(let("deep", at_depth(
                "deep", do(get(name("t"), "x")), do(call(name("f"))), attempt(do(get(name("t"), "zz"))),
                attempt(do(call(name("f"), num(1)))), do(call(name("f"))),
            )))
            at.done(do(call(name("deep"), num(18))))
            at.owner_seen("done", "done")
            at.seen("!no such name", "!wrong number")
            self.assertEqual(at.plain.depth, 0)

    def test_5_getters_and_setters_are_called_as_the_owner(self):
        for at in self.worlds():
            at.owner_done(
                let("t", thing()), let("x", words("owner")),
                ask(name("t"), "g", func((), show(words("get")), back(thing(o=name("me")))),
                    func(("w",), show(name("w")), put(name("me"), "made", thing()))),
            )
            at.give("t")
            before = len(at.plain.heap)
            at.done(let("r", get(name("t"), "g")), put(name("t"), "g", words("set")), show(get(name("t"), "made")))
            at.owner_seen("get", "set")
            at.seen("<object>")
            self.assertEqual([made[0] for made in at.plain.heap[before:]], ["scope", "object", "scope", "object"])
            self.assertEqual(at.plain.owners[before:], [at.owner] * 4)
            self.assertEqual(at.gone(at.owner), at.numbers("t") + [before + 1, before + 3])
            # The receiver is the object itself.
            told = at.plain.heap[before + 1][1]
            self.assertEqual(told, (("o", ("data", at.world.variables(at.owner)["t"], False)),))

    def test_5_the_owner_goes_on_with_its_own_operations(self):
        for at in self.worlds(right=(("only", 1, ("nocall",)),)):
            at.owner_done(let("g", giving(words("got"))), let("t", thing()), ask(name("t"), "x", name("g")))
            at.give("t", "g")
            at.refused("denied", do(call(name("g"))))
            at.gives(get(name("t"), "x"), ("text", "got"))

    def test_6_revoked_while_the_other_side_waits(self):
        for at in self.worlds():
            at.owner_done(
                let("r", thing()), let("f", func((), revoking(), show(words("behind")), back(name("r")))),
                let("g", func((), revoking(), ("raise", name("r")))),
            )
            at.give("f", "g")
            at.refused("revoked", do(call(name("f"))), show(words("not here")))
            at.owner_seen("behind")
            at.seen()
            # What it has given is not handed over.
            self.assertEqual(at.gone(at.owner), at.numbers("f", "g"))
            self.assertIs(at.plain.revoked, True)
            at.plain.unrevoke()
            at.done(attempt(do(call(name("g")))))
            at.seen("!revoked")
            self.assertEqual(at.gone(at.owner), at.numbers("f", "g"))

    def test_6_the_operation_was_done(self):
        for at in self.worlds():
            setter = func(("w",), put(name("t"), "x", name("w")), revoking())
            at.owner_done(let("t", thing(x=num(1))), ask(name("t"), "r", REVOKER, setter))
            at.give("t")
            at.done(attempt(put(name("t"), "r", num(5))), attempt(do(get(name("t"), "x"))))
            at.seen("!revoked", "!revoked")
            self.assertEqual(at.own(back(get(name("t"), "x"))), ended(("int", 5)))
            self.assertEqual(at.plain.depth, 0)

    def test_6_a_getter_that_is_the_revoker(self):
        for at in self.worlds():
            at.owner_done(let("t", thing()), ask(name("t"), "r", REVOKER))
            at.give("t")
            at.refused("revoked", do(get(name("t"), "r")))
            self.assertIs(at.plain.revoked, True)

    def test_6_revoked_by_the_side_that_asks_in_the_midst(self):
        for at in self.worlds():
            at.owner_done(let("f", func(("h",), attempt(do(call(name("h")))), show(words("owner")), back(num(1)))))
            at.give("f")
            at.done(let("h", func((), revoking(), show(words("mine")))), attempt(show(call(name("f"), name("h")))))
            at.seen("mine", "!revoked")
            at.owner_seen("!revoked", "owner")


class RevokingTest(CrossingTest):
    def test_by_the_host(self):
        for at in self.worlds():
            at.owner_done(let("t", thing(x=num(1))))
            at.give("t")
            at.gives(get(name("t"), "x"), ("int", 1))
            self.assertIsNone(at.plain.revoke())
            self.assertIs(at.plain.revoked, True)
            at.refused("revoked", do(get(name("t"), "x")))
            at.plain.revoke()
            self.assertIs(at.plain.revoked, True)
            self.assertEqual(at.own(back(get(name("t"), "x"))), ended(("int", 1)))

    def test_by_code(self):
        for at in self.worlds():
            at.owner_done(let("t", thing(x=num(1))))
            at.give("t")
            read = show(get(name("t"), "x"))
            at.done(read, show(call(REVOKER)), attempt(read), show(call(REVOKER)))
            at.seen("1", "None", "!revoked", "None")
            self.assertIs(at.plain.revoked, True)
            at.owner_done(do(get(name("t"), "x")))

    def test_what_is_no_operation_goes_on(self):
        for at in self.worlds():
            at.owner_done(let("t", thing()), let("f", giving(num(1))))
            at.give("t", "f")
            at.plain.revoke()
            at.done(
                show(name("t")), show(name("f")), show(("kind", name("t"))), show(("kind", name("f"))),
                show(("bin", "==", name("t"), name("t"))), let("k", thing(name("t"), x=num(1))),
                show(get(name("k"), "x")),
                put(name("k"), "x", num(2)), show(call(giving(num(3)))),
            )
            at.seen("<object>", "<function>", "object", "function", "True", "1", "3")

    def test_what_is_no_operation_goes_on_until_a_parent_is_asked(self):
        for at in self.worlds():
            at.owner_done(let("t", thing()))
            at.give("t")
            at.done(let("k", thing(name("t"), x=num(1))))
            at.plain.revoke()
            at.done(put(name("k"), "x", num(2)), show(get(name("k"), "x")), show(("names", name("k"))))
            at.seen("2", "x")
            at.refused("revoked", put(name("k"), "y", num(2)))
            at.refused("revoked", do(("has", name("k"), "y")))

    def test_the_revoker_crosses_and_revokes(self):
        for at in self.worlds():
            at.owner_done(let("r", REVOKER), let("f", func(("x",), show(("kind", name("x"))), do(call(name("x"))))))
            at.give("r", "f")
            at.done(attempt(do(call(name("f"), name("r")))))
            at.owner_seen("revoker")
            at.seen("!revoked")


class BothDirectionsTest(CrossingTest):
    def test_back_and_forth(self):
        for at in self.worlds():
            at.done(let("ping", asking("pong", "mine", show(name("n")))))
            at.lend("ping")
            at.owner_done(let("pong", asking("ping", "owner", show(name("n")))))
            at.give("pong")
            at.done(show(call(name("ping"), num(4))), show(call(name("ping"), num(3))))
            at.seen("4", "2", "0", "mine", "3", "1", "owner")
            at.owner_seen("3", "1", "2", "0")

    def test_an_object_of_each_in_the_others(self):
        for at in self.worlds():
            at.owner_done(let("a", thing(x=num(1))))
            at.give("a")
            at.done(let("b", thing(name("a"), y=num(2))))
            at.lend("b")
            at.owner_done(let("c", thing(name("b"), z=num(3))))
            at.give("c")
            at.done(let("d", thing(name("c"))))
            for x, value in (("x", 1), ("y", 2), ("z", 3)):
                at.gives(get(name("d"), x), ("int", value))
                at.gives(("has", name("d"), x), ("bool", True))
            at.refused("no such name", do(get(name("d"), "w")))
            at.gives(("has", name("d"), "w"), ("bool", False))
            at.done(put(name("d"), "x", num(9)), put(name("d"), "w", num(8)))
            at.gives(("names", name("d")), ("text", "x w"))
            self.assertEqual(at.gone(at.owner), at.numbers("a", "c"))
            self.assertEqual(at.gone(at.asks), at.own_numbers("b", "d"))

    def test_the_policy_is_asked_when_an_operation_comes_back(self):
        # A put whose receiver is of the side that asks ends in a define that the owner of the parent asks for.
        for at in self.worlds(left=(("protect", "w"),)):
            at.owner_done(let("a", thing(x=num(1))))
            at.give("a")
            at.done(let("d", thing(name("a"))))
            at.refused("denied", put(name("d"), "w", num(8)))
            at.done(put(name("d"), "x", num(8)))
            at.gives(("names", name("d")), ("text", "x"))

    def test_a_getter_of_the_other_side(self):
        for at in self.worlds():
            at.owner_done(
                let("g", func((), show(("kind", name("me"))), back(get(name("me"), "x")))),
                let("s", func(("w",), put(name("me"), "x", name("w")))),
            )
            at.give("g", "s")
            at.done(let("o", thing(x=num(4))), ask(name("o"), "y", name("g"), name("s")))
            at.gives(get(name("o"), "y"), ("int", 4))
            at.owner_seen("object")
            at.done(put(name("o"), "y", num(6)))
            at.gives(get(name("o"), "x"), ("int", 6))
            self.assertEqual(at.gone(at.asks), at.own_numbers("o"))

    def test_a_raise_through_both_sides(self):
        for at in self.worlds():
            at.done(let("o", thing()), let("f", func((), ("raise", name("o")))))
            at.lend("f")
            at.owner_done(let("g", func((), do(call(name("f"))), show(words("not here")))))
            at.give("g")
            at.done(("try", (do(call(name("g"))),), "e", (show(("bin", "==", name("e"), name("o"))),)))
            at.seen("True")
            at.owner_seen()
            self.assertEqual(at.gone(at.asks), at.own_numbers("f", "o"))
            self.assertEqual(at.gone(at.owner), at.numbers("g"))

    def test_a_return_does_not_pass_a_call_of_the_other_side(self):
        for at in self.worlds():
            at.owner_done(let("f", func(("h",), show(call(name("h"))), back(num(2)))))
            at.give("f")
            at.done(show(call(name("f"), giving(num(1)))), show(words("end")))
            at.owner_seen("1")
            at.seen("2", "end")


class DepthTest(CrossingTest):
    def test_calls_within_a_side(self):
        for at in self.worlds():
            at.done(let("deep", at_depth("deep", back(words("bottom")))))
            at.gives(call(name("deep"), num(20)), ("text", "bottom"))
            self.assertEqual(at.plain.depth, 0)
            at.refused("too deep", do(call(name("deep"), num(21))))
            self.assertEqual(at.plain.depth, 0)
            at.gives(call(name("deep"), num(20)), ("text", "bottom"))

    def test_the_next_call_is_as_if_nothing_had_been(self):
        for at in self.worlds():
            at.done(let("deep", at_depth("deep", back(words("bottom")))))
            at.done(
                attempt(do(call(name("deep"), num(21)))), show(call(name("deep"), num(20))),
                attempt(do(call(name("deep"), num(30)))), show(call(name("deep"), num(20))),
            )
            at.seen("!too deep", "bottom", "!too deep", "bottom")

    def test_too_deep_is_raised_at_the_call(self):
        for at in self.worlds():
            at.done(let("deep", at_depth("deep", attempt(do(call(name("deep"), num(1)))), back(words("caught")))))
            before = len(at.plain.heap)
            at.gives(call(name("deep"), num(20)), ("text", "caught"))
            at.seen("!too deep")
            self.assertEqual(len(at.plain.heap), before + 20)

    def test_too_deep_is_ahead_of_wrong_number(self):
        for depth, line in ((19, "!wrong number"), (20, "!too deep")):
            for at in self.worlds():
                at.done(let("f", giving(num(1))), let("deep", at_depth("deep", attempt(do(call(name("f"), num(1)))))))
                at.done(do(call(name("deep"), num(depth))))
                at.seen(line)

    def test_too_deep_is_ahead_of_wrong_number_across(self):
        for depth, line in ((18, "!wrong number"), (19, "!too deep"), (20, "!too deep")):
            for at in self.worlds():
                at.owner_done(let("f", giving(num(1))))
                at.give("f")
                at.done(let("deep", at_depth("deep", attempt(do(call(name("f"), num(1)))))))
                at.done(do(call(name("deep"), num(depth))))
                at.seen(line)

    def test_behind_each_end_the_depth_is_what_it_was(self):
        for ends in (
            do(call(name("done"))), do(call(name("gives"))), attempt(do(call(name("fails")))),
            attempt(do(call(name("deep"), num(30)))), attempt(do(call(name("gives"), num(1)))),
            do(call(name("f"))), attempt(do(call(name("g")))), attempt(do(call(name("f"), num(1)))),
            do(get(name("o"), "x")), attempt(do(get(name("o"), "zz"))), put(name("o"), "x", num(1)),
            do(call(name("back"), name("gives"))), attempt(do(call(name("back"), name("fails")))),
        ):
            for at in self.worlds():
                at.owner_done(
                    let("o", thing(x=num(1))), let("f", giving(num(1))), let("g", func((), ("raise", words("raised")))),
                    let("back", func(("h",), do(call(name("h"))))),
                )
                at.give("o", "f", "g", "back")
                at.done(
                    let("done", func((), do(num(1)))), let("gives", giving(num(1))),
                    let("fails", func((), ("raise", words("raised")))),
                    let("deep", at_depth("deep", do(num(1)))),
                    let("probe", at_depth(
                        "probe", ends, ends,
                        attempt(do(call(name("deep"), num(5))), show(words("five"))),
                        attempt(do(call(name("deep"), num(6))), show(words("six"))),
                    )),
                    do(call(name("probe"), num(15))),
                )
                self.assertEqual(at.world.seen(at.asks)[-2:], ["five", "!too deep"], ends)

    def test_what_is_no_function_is_refused_at_any_depth(self):
        for at in self.worlds():
            at.done(let("o", thing(x=num(1))), let("deep", at_depth(
                "deep", attempt(do(call(name("o")))), attempt(do(call(num(1)))), attempt(do(get(num(1), "a"))),
                show(get(name("o"), "x")), put(name("o"), "y", num(2)), show(call(REVOKER)),
            )))
            at.done(do(call(name("deep"), num(20))))
            at.seen("!not a function", "!not a function", "!not an object", "1", "None")

    def test_getters_and_setters_count(self):
        for depth, lines in ((19, ["5"]), (20, ["!too deep", "!too deep"])):
            for at in self.worlds():
                at.done(let("o", thing()), ask(name("o"), "x", giving(num(5)), func(("w",), do(num(1)))))
                uses = (attempt(show(get(name("o"), "x"))), attempt(put(name("o"), "x", num(1))))
                at.done(let("deep", at_depth("deep", *uses)))
                at.done(do(call(name("deep"), num(depth))))
                at.seen(*lines)

    def test_calls_across(self):
        # Each call of the other side is two deeper: the operation and the call.
        for many, line in ((19, "bottom"), (20, "!too deep")):
            for at in self.worlds():
                at.done(let("ping", asking("pong", "bottom")))
                at.lend("ping")
                at.owner_done(let("pong", asking("ping", "bottom")))
                at.give("pong")
                # The first call of ping is one deep, those behind it are two deeper each.
                at.done(attempt(show(call(name("ping"), num(many - 10)))))
                at.seen(line)
                self.assertEqual(at.plain.depth, 0)
                at.done(attempt(show(call(name("ping"), num(9)))))
                at.seen("bottom")

    def test_a_chain_of_parents_of_both_sides(self):
        # Each step to an object of the other side is one deeper.
        for steps, line in ((20, "True"), (21, "!too deep")):
            for at in self.worlds():
                turns = ((at.owner, at.own), (at.asks, at.ask))
                at.owner_done(let("o", thing(x=num(1))))
                for many in range(1, steps + 1):
                    at.plain.hand(turns[(many - 1) % 2][0], "o")
                    self.assertEqual(turns[many % 2][1](let("o", thing(name("o")))), DONE)
                side, turn = turns[steps % 2]
                self.assertEqual(turn(attempt(show(("has", name("o"), "x")))), DONE)
                self.assertEqual(at.world.seen(side), [line])


if __name__ == "__main__":
    unittest.main()
