"""Operations, one by one: each with each outcome that the document names (o2, o5)."""

import unittest

from membrane.objects import members_of, parent_of, perform, values_in

NONE = ("none",)
DONE = ("value", NONE)
ONE = ("data", ("int", 1), False)
FIXED = ("data", ("int", 1), True)
ASK = ("ask", ("ref", 8), ("ref", 9), False)
FIXED_ASK = ("ask", ("ref", 8), ("ref", 9), True)
ASK_OF_NONE = ("ask", NONE, NONE, False)
FAR = ("far", 0, "object")
FAR_FUNCTION = ("far", 3, "function")
OTHER = ("object", (("a", ("data", ("text", "other"), False)),), NONE, True)
PARENTS = (("ref", 0), ("ref", 2), FAR, FAR_FUNCTION)
BLOCK = (("return", ("name", "p")),)


def an_object(members=(), parent=NONE, is_open=True):
    return ("object", members, parent, is_open)


def a_func(members=(), is_open=True):
    return ("func", ("p", "q"), BLOCK, 7, members, is_open)


def both(members=(), is_open=True):
    """An object without a parent and a func, with the same members."""
    return (an_object(members, NONE, is_open), a_func(members, is_open))


def letters(count):
    """Members with unlike names, as many as told."""
    return tuple((chr(ord("a") + at), ("data", ("int", at), False)) for at in range(count))


class PerformTest(unittest.TestCase):
    """Each operation is done on the object 1, with another one ahead of it and one behind it."""

    def assert_outcome(self, thing, operation, outcome, after=None):
        heap = [OTHER, thing, OTHER]
        with self.subTest(thing=thing, operation=operation):
            told = perform(heap, 1, operation)
            self.assertEqual(told, outcome)
            self.assertIs(type(told), tuple)
            # 1 and True, and 0 and False, are equal in Python, but not here.
            self.assertEqual(repr(told), repr(outcome))
            wanted = [OTHER, thing if after is None else after, OTHER]
            self.assertEqual(repr(heap), repr(wanted))

    def assert_refused(self, thing, operation, words):
        self.assert_outcome(thing, operation, ("raise", words))


class GetTest(PerformTest):
    def test_a_data_member(self):
        for receiver in (("ref", 1), ("ref", 0), FAR, ("text", "t"), NONE):
            for thing in both((("a", ONE),)) + both((("b", ASK), ("a", FIXED)), False):
                self.assert_outcome(thing, ("get", "a", receiver), ("value", ("int", 1)))

    def test_a_data_member_ahead_of_a_parent(self):
        for parent in PARENTS:
            self.assert_outcome(an_object((("a", ONE),), parent), ("get", "a", FAR), ("value", ("int", 1)))

    def test_an_ask_member(self):
        for receiver in (("ref", 1), ("ref", 0), FAR, ("int", 3), NONE):
            for member in (ASK, FIXED_ASK, ("ask", ("ref", 8), NONE, False)):
                for thing in both((("a", member),)) + (an_object((("a", member),), FAR, False),):
                    outcome = ("next", ("ref", 8), ("call", receiver, ()), True)
                    self.assert_outcome(thing, ("get", "a", receiver), outcome)

    def test_a_getter_of_any_value(self):
        for getter in (("bool", False), ("int", 0), ("text", ""), FAR_FUNCTION, ("revoker",)):
            thing = an_object((("a", ("ask", getter, NONE, False)),))
            outcome = ("next", getter, ("call", ("ref", 1), ()), True)
            self.assert_outcome(thing, ("get", "a", ("ref", 1)), outcome)

    def test_an_ask_member_without_a_getter(self):
        for member in (ASK_OF_NONE, ("ask", NONE, ("ref", 9), False), ("ask", NONE, ("ref", 9), True)):
            for thing in both((("a", member),)) + (an_object((("a", member),), ("ref", 0)),):
                self.assert_outcome(thing, ("get", "a", ("ref", 1)), DONE)

    def test_no_member(self):
        for thing in both() + both((("b", ONE),), False):
            self.assert_refused(thing, ("get", "a", ("ref", 1)), "no such name")

    def test_no_member_but_a_parent(self):
        for parent in PARENTS:
            for receiver in (("ref", 1), ("ref", 0), FAR, ("text", "t")):
                operation = ("get", "a", receiver)
                self.assert_outcome(an_object((("b", ONE),), parent), operation, ("next", parent, operation, True))


class PutTest(PerformTest):
    RECEIVERS = (("ref", 0), ("ref", 2), ("ref", 11), ("far", 1, "object"), FAR_FUNCTION, ("int", 1), ("text", "t"), NONE)

    def test_a_data_member_of_the_receiver(self):
        for is_open in (True, False):
            members = (("b", ONE), ("a", ONE), ("c", FIXED))
            changed = (("b", ONE), ("a", ("data", ("text", "new"), False)), ("c", FIXED))
            for thing, after in zip(both(members, is_open), both(changed, is_open)):
                self.assert_outcome(thing, ("put", "a", ("text", "new"), ("ref", 1)), DONE, after)
            for parent in PARENTS:
                self.assert_outcome(
                    an_object(members, parent, is_open),
                    ("put", "a", ("text", "new"), ("ref", 1)),
                    DONE,
                    an_object(changed, parent, is_open),
                )

    def test_a_value_of_any_kind(self):
        for value in (NONE, ("bool", True), ("int", -4), ("ref", 1), ("ref", 0), FAR, ("revoker",)):
            for thing, after in zip(both((("a", ONE),)), both((("a", ("data", value, False)),))):
                self.assert_outcome(thing, ("put", "a", value, ("ref", 1)), DONE, after)

    def test_a_data_member_of_a_full_object(self):
        members = letters(20)
        changed = members[:4] + (("e", ("data", NONE, False)),) + members[5:]
        for thing, after in zip(both(members), both(changed)):
            self.assert_outcome(thing, ("put", "e", NONE, ("ref", 1)), DONE, after)

    def test_a_data_member_with_another_receiver(self):
        for receiver in self.RECEIVERS:
            outcome = ("next", receiver, ("define", "a", ("data", ("int", 5), False)), False)
            for thing in both((("a", ONE),)) + (an_object((("a", ONE),), FAR, False),):
                self.assert_outcome(thing, ("put", "a", ("int", 5), receiver), outcome)

    def test_a_fixed_data_member(self):
        for receiver in (("ref", 1),) + self.RECEIVERS:
            for thing in both((("a", FIXED),)) + (an_object((("a", FIXED),), ("ref", 0)),):
                self.assert_refused(thing, ("put", "a", ("int", 5), receiver), "fixed")

    def test_an_ask_member(self):
        for receiver in (("ref", 1),) + self.RECEIVERS:
            for member in (ASK, FIXED_ASK, ("ask", NONE, ("ref", 9), False)):
                outcome = ("next", ("ref", 9), ("call", receiver, (("int", 5),)), False)
                for thing in both((("a", member),)) + (an_object((("a", member),), FAR, False),):
                    self.assert_outcome(thing, ("put", "a", ("int", 5), receiver), outcome)

    def test_a_setter_of_any_value(self):
        for setter in (("bool", False), ("int", 0), ("text", ""), FAR_FUNCTION, ("revoker",)):
            thing = an_object((("a", ("ask", NONE, setter, False)),))
            outcome = ("next", setter, ("call", FAR, (("int", 5),)), False)
            self.assert_outcome(thing, ("put", "a", ("int", 5), FAR), outcome)

    def test_an_ask_member_without_a_setter(self):
        for receiver in (("ref", 1),) + self.RECEIVERS:
            for member in (ASK_OF_NONE, ("ask", ("ref", 8), NONE, False), ("ask", ("ref", 8), NONE, True)):
                for thing in both((("a", member),)) + (an_object((("a", member),), ("ref", 0)),):
                    self.assert_refused(thing, ("put", "a", ("int", 5), receiver), "no such name")

    def test_no_member(self):
        come = ("a", ("data", ("int", 5), False))
        for members in ((), (("b", FIXED),), letters(20)[1:]):
            for thing, after in zip(both(members), both(members + (come,))):
                self.assert_outcome(thing, ("put", "a", ("int", 5), ("ref", 1)), DONE, after)

    def test_no_member_of_a_closed_object(self):
        for members in ((), (("b", ONE),), letters(21)[1:]):
            for thing in both(members, False):
                self.assert_refused(thing, ("put", "a", ("int", 5), ("ref", 1)), "closed")

    def test_no_member_of_a_full_object(self):
        for thing in both(letters(21)[1:]):
            self.assert_refused(thing, ("put", "a", ("int", 5), ("ref", 1)), "too large")

    def test_no_member_and_another_receiver(self):
        for receiver in self.RECEIVERS:
            outcome = ("next", receiver, ("define", "a", ("data", ("int", 5), False)), False)
            for thing in both() + both(letters(21)[1:], False):
                self.assert_outcome(thing, ("put", "a", ("int", 5), receiver), outcome)

    def test_no_member_but_a_parent(self):
        for parent in PARENTS:
            for receiver in (("ref", 1),) + self.RECEIVERS:
                operation = ("put", "a", ("int", 5), receiver)
                for thing in (an_object((), parent), an_object((("b", FIXED),), parent, False)):
                    self.assert_outcome(thing, operation, ("next", parent, operation, False))


class HasTest(PerformTest):
    def test_a_member(self):
        for member in (ONE, FIXED, ASK, FIXED_ASK, ASK_OF_NONE):
            for thing in both((("b", ONE), ("a", member))) + (an_object((("a", member),), FAR, False),):
                self.assert_outcome(thing, ("has", "a"), ("value", ("bool", True)))

    def test_no_member(self):
        for thing in both() + both((("b", ONE), ("aa", ONE)), False):
            self.assert_outcome(thing, ("has", "a"), ("value", ("bool", False)))

    def test_no_member_but_a_parent(self):
        for parent in PARENTS:
            self.assert_outcome(an_object((("b", ONE),), parent), ("has", "a"), ("next", parent, ("has", "a"), True))


class DropTest(PerformTest):
    def test_a_member(self):
        for member in (ONE, ASK, ASK_OF_NONE):
            for is_open in (True, False):
                members = (("b", FIXED), ("a", member), ("c", ASK))
                left = (("b", FIXED), ("c", ASK))
                for thing, after in zip(both(members, is_open), both(left, is_open)):
                    self.assert_outcome(thing, ("drop", "a"), DONE, after)

    def test_the_only_member_of_an_object_with_a_parent(self):
        for parent in PARENTS:
            self.assert_outcome(an_object((("a", ONE),), parent), ("drop", "a"), DONE, an_object((), parent))

    def test_no_member(self):
        for thing in both() + both((("b", ONE),), False) + (an_object((), ("ref", 0)), an_object((), FAR)):
            self.assert_refused(thing, ("drop", "a"), "no such name")

    def test_a_fixed_member(self):
        for member in (FIXED, FIXED_ASK):
            for thing in both((("a", member),)) + both((("b", ONE), ("a", member)), False):
                self.assert_refused(thing, ("drop", "a"), "fixed")


class LookTest(PerformTest):
    def test_look(self):
        for member, words in (
            (ONE, "data"),
            (FIXED, "fixed data"),
            (ASK, "ask"),
            (ASK_OF_NONE, "ask"),
            (FIXED_ASK, "fixed ask"),
        ):
            for thing in both((("b", FIXED), ("a", member))) + (an_object((("a", member),), FAR, False),):
                self.assert_outcome(thing, ("look", "a"), ("value", ("text", words)))

    def test_no_member(self):
        for thing in both() + both((("b", ONE),), False) + (an_object((), ("ref", 0)), an_object((), FAR)):
            self.assert_outcome(thing, ("look", "a"), DONE)


class FixTest(PerformTest):
    def test_a_member(self):
        for member, fixed in ((ONE, FIXED), (ASK, FIXED_ASK), (ASK_OF_NONE, ("ask", NONE, NONE, True))):
            for is_open in (True, False):
                members = (("b", ONE), ("a", member), ("c", ASK))
                changed = (("b", ONE), ("a", fixed), ("c", ASK))
                for thing, after in zip(both(members, is_open), both(changed, is_open)):
                    self.assert_outcome(thing, ("fix", "a"), DONE, after)
                self.assert_outcome(
                    an_object(members, FAR, is_open), ("fix", "a"), DONE, an_object(changed, FAR, is_open)
                )

    def test_a_fixed_member_stays_so(self):
        for member in (FIXED, FIXED_ASK):
            for thing in both((("b", ONE), ("a", member))):
                self.assert_outcome(thing, ("fix", "a"), DONE)

    def test_no_member(self):
        for thing in both() + both((("b", ONE),), False) + (an_object((), ("ref", 0)), an_object((), FAR)):
            self.assert_refused(thing, ("fix", "a"), "no such name")


class DefineTest(PerformTest):
    NEW = (("data", ("text", "new"), False), ("data", FAR, True), ASK, FIXED_ASK, ASK_OF_NONE)

    def test_a_member_is_replaced_in_its_place(self):
        for old in (ONE, ASK, ASK_OF_NONE):
            for new in self.NEW:
                for is_open in (True, False):
                    members = (("b", ONE), ("a", old), ("c", FIXED))
                    changed = (("b", ONE), ("a", new), ("c", FIXED))
                    for thing, after in zip(both(members, is_open), both(changed, is_open)):
                        self.assert_outcome(thing, ("define", "a", new), DONE, after)

    def test_a_member_of_a_full_object(self):
        members = letters(20)
        for thing, after in zip(both(members, False), both((("a", ASK),) + members[1:], False)):
            self.assert_outcome(thing, ("define", "a", ASK), DONE, after)

    def test_a_fixed_member(self):
        for old in (FIXED, FIXED_ASK):
            for new in self.NEW:
                for thing in both((("a", old),)) + both((("a", old),), False):
                    self.assert_refused(thing, ("define", "a", new), "fixed")

    def test_no_member(self):
        for new in self.NEW:
            for members in ((), (("b", FIXED), ("c", ONE)), letters(20)[1:]):
                for thing, after in zip(both(members), both(members + (("a", new),))):
                    self.assert_outcome(thing, ("define", "a", new), DONE, after)
                for parent in PARENTS:
                    after = an_object(members + (("a", new),), parent)
                    self.assert_outcome(an_object(members, parent), ("define", "a", new), DONE, after)

    def test_no_member_of_a_closed_object(self):
        for members in ((), (("b", ONE),), letters(20)[1:], letters(21)[1:]):
            for thing in both(members, False) + (an_object(members, ("ref", 0), False),):
                self.assert_refused(thing, ("define", "a", ONE), "closed")

    def test_no_member_of_a_full_object(self):
        for thing in both(letters(21)[1:]) + (an_object(letters(21)[1:], FAR),):
            self.assert_refused(thing, ("define", "a", ONE), "too large")

    def test_a_full_object_takes_one_again_behind_a_drop(self):
        for thing in both(letters(20)):
            heap = [thing]
            self.assertEqual(perform(heap, 0, ("define", "z", ONE)), ("raise", "too large"))
            self.assertEqual(perform(heap, 0, ("drop", "c")), DONE)
            self.assertEqual(perform(heap, 0, ("define", "z", ONE)), DONE)
            self.assertEqual(members_of(heap[0]), letters(2) + letters(20)[3:] + (("z", ONE),))
            self.assertEqual(perform(heap, 0, ("define", "c", ONE)), ("raise", "too large"))


class NamesTest(PerformTest):
    def test_names(self):
        for members, words in (
            ((), ""),
            ((("a", ONE),), "a"),
            ((("zed", ASK), ("a", FIXED), ("mid", ONE)), "zed a mid"),
        ):
            for thing in both(members) + both(members, False) + (an_object(members, ("ref", 0)),):
                self.assert_outcome(thing, ("names",), ("value", ("text", words)))

    def test_as_long_as_they_may_be(self):
        members = tuple((chr(ord("a") + at) * 8, ONE) for at in range(20))
        _, (_, words) = perform([an_object(members)], 0, ("names",))
        self.assertEqual(words.split(" "), [name for name, _ in members])
        self.assertEqual(len(words), 179)


class ParentTest(PerformTest):
    def test_parent(self):
        for parent in (NONE,) + PARENTS:
            for is_open in (True, False):
                self.assert_outcome(an_object((("a", ONE),), parent, is_open), ("parent",), ("value", parent))

    def test_a_func_has_none(self):
        self.assert_outcome(a_func((("a", ONE),)), ("parent",), DONE)


class CloseTest(PerformTest):
    def test_close(self):
        members = (("b", ASK), ("a", FIXED))
        for is_open in (True, False):
            for thing, after in zip(both(members, is_open), both(members, False)):
                self.assert_outcome(thing, ("close",), DONE, after)
            for parent in PARENTS:
                after = an_object(members, parent, False)
                self.assert_outcome(an_object(members, parent, is_open), ("close",), DONE, after)

    def test_is_open(self):
        for is_open in (True, False):
            for thing in both((("a", ONE),), is_open) + (an_object((), FAR, is_open),):
                self.assert_outcome(thing, ("is_open",), ("value", ("bool", is_open)))


class CallTest(PerformTest):
    def test_a_func(self):
        for receiver in (NONE, ("ref", 1), ("ref", 0), FAR, ("text", "t")):
            for args in ((), (("int", 1),), (("int", 1), FAR, NONE, ("ref", 1))):
                for thing in (a_func(), a_func((("a", ONE),), False)):
                    self.assert_outcome(thing, ("call", receiver, args), ("enter", 1, receiver, args, True))

    def test_an_object(self):
        for thing in (an_object(), an_object((("a", ASK),), FAR_FUNCTION), an_object((), ("ref", 0), False)):
            for receiver in (NONE, ("ref", 1)):
                self.assert_refused(thing, ("call", receiver, ()), "not a function")


class OrderTest(unittest.TestCase):
    """The order of the members (o2), over several operations on one object."""

    def test_order(self):
        for thing in both():
            heap = [thing]

            def names():
                return perform(heap, 0, ("names",))[1][1]

            for x in ("d", "b", "a", "c"):
                self.assertEqual(perform(heap, 0, ("put", x, ("int", 1), ("ref", 0))), DONE)
            self.assertEqual(names(), "d b a c")
            self.assertEqual(perform(heap, 0, ("put", "b", ("int", 2), ("ref", 0))), DONE)
            self.assertEqual(perform(heap, 0, ("define", "d", ASK)), DONE)
            self.assertEqual(perform(heap, 0, ("fix", "a")), DONE)
            self.assertEqual(names(), "d b a c")
            self.assertEqual(perform(heap, 0, ("drop", "b")), DONE)
            self.assertEqual(names(), "d a c")
            self.assertEqual(perform(heap, 0, ("define", "b", ONE)), DONE)
            self.assertEqual(names(), "d a c b")
            self.assertEqual(perform(heap, 0, ("drop", "d")), DONE)
            self.assertEqual(perform(heap, 0, ("put", "d", ("int", 3), ("ref", 0))), DONE)
            self.assertEqual(names(), "a c b d")
            self.assertEqual(
                members_of(heap[0]), (("a", FIXED), ("c", ONE), ("b", ONE), ("d", ("data", ("int", 3), False)))
            )

    def test_what_was_fixed_and_closed_stays_so(self):
        for thing in both((("a", ONE),)):
            heap = [thing]
            self.assertEqual(perform(heap, 0, ("fix", "a")), DONE)
            self.assertEqual(perform(heap, 0, ("put", "a", NONE, ("ref", 0))), ("raise", "fixed"))
            self.assertEqual(perform(heap, 0, ("define", "a", ONE)), ("raise", "fixed"))
            self.assertEqual(perform(heap, 0, ("drop", "a")), ("raise", "fixed"))
            self.assertEqual(perform(heap, 0, ("close",)), DONE)
            self.assertEqual(perform(heap, 0, ("put", "b", NONE, ("ref", 0))), ("raise", "closed"))
            self.assertEqual(perform(heap, 0, ("is_open",)), ("value", ("bool", False)))
            self.assertEqual(members_of(heap[0]), (("a", FIXED),))


class PartsTest(unittest.TestCase):
    """members_of and parent_of."""

    def test_of_an_object(self):
        for members in ((), (("b", ONE), ("a", ASK)), letters(20)):
            for parent in (NONE,) + PARENTS:
                for is_open in (True, False):
                    thing = an_object(members, parent, is_open)
                    self.assertEqual(members_of(thing), members)
                    self.assertEqual(parent_of(thing), parent)

    def test_of_a_func(self):
        for members in ((), (("b", ONE), ("a", ASK)), letters(20)):
            for is_open in (True, False):
                self.assertEqual(members_of(a_func(members, is_open)), members)
                self.assertEqual(parent_of(a_func(members, is_open)), NONE)


class ValuesInTest(unittest.TestCase):
    def test_the_values_in_their_order(self):
        one, two = ("int", 1), ("ref", 2)
        for operation, values in (
            (("get", "a", one), (one,)),
            (("put", "a", one, two), (one, two)),
            (("define", "a", ("data", one, True)), (one,)),
            (("define", "a", ("ask", two, one, False)), (two, one)),
            (("call", two, ()), (two,)),
            (("call", two, (one, NONE, two)), (two, one, NONE, two)),
            (("has", "a"), ()), (("drop", "a"), ()), (("look", "a"), ()), (("fix", "a"), ()),
            (("names",), ()), (("parent",), ()), (("close",), ()), (("is_open",), ()),
        ):
            self.assertEqual(values_in(operation), values)


if __name__ == "__main__":
    unittest.main()
