"""Policies: what is one (y1), what is answered and denied by it, and which names are hidden (y2)."""

import unittest

from membrane.errors import BadPolicy
from membrane.policies import asked, check_policy, shown_names

NONE = ("none",)
GO = ("go",)
DENIED = ("denied",)
NO_SUCH_NAME = ("answer", False, ("text", "no such name"))
ANSWERED_FALSE = ("answer", True, ("bool", False))
ANSWERED_NONE = ("answer", True, NONE)
FOUR = (("hide", "a"), ("protect", "a"), ("readonly",), ("nocall",))

WRONG_RULES = (
    None, 0, 1, True, False, "", "readonly", "nocall", (), ("",), ("read",), ("readonly", "a"), ("readonly", ()),
    ("nocall", "a"), ("nocall", 0), ("hide",), ("hide", "a", "b"), ("hide", ("a",)), ("hide", "a", ()), ("protect",),
    ("protect", "a", "b"), ("Hide", "a"), ("show", "a"), ("readonly", "nocall"), (("readonly",),), (("hide", "a"),),
    ("only",), ("only", 0), ("only", ("hide", "a")), ("only", 0, "readonly"), ("only", 0, ()), ("only", 0, None),
    ("only", 0, ("hide",)), ("only", 0, ("read",)), ("only", 0, ("hide", "A")), ("only", 0, ("readonly",), ()),
    ("only", 0, "hide", "a"), ("only", 0, (("readonly",),)), (0, "only", ("readonly",)), (None,), (0,), (True, "a"),
    (("hide",), "a"), (None, "a"), ((), "a"), (None, 0, ("readonly",)), (("only",), 0, ("readonly",)),
)
WRONG_NAMES = (
    "", "abcdefghi", "A", "a1", "1", "a b", "a\n", "_", "a_b", "\u00e4", "`", "{", None, 0, 1, True, (), ("a",),
)
WRONG_NUMBERS = (-1, -100, True, False, None, "", "0", "a", (), (0,), ("int", 0))


def operations(x):
    """The operations on the name x."""
    return {
        "get": ("get", x, ("ref", 0)),
        "put": ("put", x, ("int", 1), ("ref", 0)),
        "has": ("has", x),
        "drop": ("drop", x),
        "look": ("look", x),
        "fix": ("fix", x),
        "define": ("define", x, ("data", NONE, False)),
    }


OTHERS = {
    "names": ("names",),
    "parent": ("parent",),
    "close": ("close",),
    "is_open": ("is_open",),
    "call": ("call", NONE, (("text", "a"),)),
}

# What is said by each rule of each operation, where it is not ("go",); first of those on its name, then of others.
BY_HIDE = {
    "get": NO_SUCH_NAME, "has": ANSWERED_FALSE, "look": ANSWERED_NONE,
    "put": DENIED, "drop": DENIED, "fix": DENIED, "define": DENIED,
}
BY_PROTECT = {"put": DENIED, "drop": DENIED, "fix": DENIED, "define": DENIED}
BY_READONLY = {"put": DENIED, "drop": DENIED, "fix": DENIED, "define": DENIED, "close": DENIED}
BY_NOCALL = {"call": DENIED}
SAID = {
    ("hide", "a"): (BY_HIDE, {}),
    ("protect", "a"): (BY_PROTECT, {}),
    ("readonly",): (BY_READONLY, BY_READONLY),
    ("nocall",): (BY_NOCALL, BY_NOCALL),
}


class CheckPolicyTest(unittest.TestCase):
    def assert_right(self, policy):
        with self.subTest(policy=policy):
            self.assertIsNone(check_policy(policy))

    def assert_wrong(self, policy):
        with self.subTest(policy=policy):
            with self.assertRaises(BadPolicy) as caught:
                check_policy(policy)
            self.assertIs(type(caught.exception), BadPolicy)

    def test_each_rule(self):
        self.assert_right(())
        for rule in FOUR:
            self.assert_right((rule,))
            self.assert_right((rule, rule))
            for n in (0, 1, 7, 10 ** 30):
                self.assert_right((("only", n, rule),))
        self.assert_right(FOUR + tuple(("only", 3, rule) for rule in FOUR))

    def test_wrong_rules(self):
        for rule in WRONG_RULES:
            self.assert_wrong((rule,))
            self.assert_wrong(FOUR + (rule,))
            self.assert_wrong((rule,) + FOUR)

    def test_an_only_within_an_only(self):
        for rule in FOUR:
            self.assert_wrong((("only", 0, ("only", 0, rule)),))
            self.assert_wrong((("only", 0, ("only", 1, ("only", 2, rule))),))

    def test_names(self):
        for word in ("hide", "protect"):
            for x in ("a", "z", "me", "abcdefgh"):
                self.assert_right(((word, x),))
                self.assert_right((("only", 0, (word, x)),))
            for x in WRONG_NAMES:
                self.assert_wrong(((word, x),))
                self.assert_wrong((("only", 0, (word, x)),))

    def test_numbers(self):
        for n in WRONG_NUMBERS:
            for rule in FOUR:
                self.assert_wrong((("only", n, rule),))

    def test_the_number_of_rules(self):
        for rule in FOUR + (("only", 5, ("readonly",)),):
            self.assert_right((rule,) * 11)
            self.assert_right((rule,) * 12)
            self.assert_wrong((rule,) * 13)
            self.assert_wrong((rule,) * 14)

    def test_what_is_no_tuple(self):
        for policy in (None, 0, 1, True, False, "", "readonly", "hide", ("readonly",), ("hide", "a"), ("only", 0)):
            self.assert_wrong(policy)

    def test_deep_trees(self):
        deep = ()
        for _ in range(50000):
            deep = (deep,)
        for rule in (deep, ("hide", deep), ("only", deep, FOUR[0]), ("only", 0, deep), (deep, "a")):
            with self.assertRaises(BadPolicy):
                check_policy((rule,))
        with self.assertRaises(BadPolicy):
            check_policy(deep)


class AskedTest(unittest.TestCase):
    def assert_said(self, policy, n, operation, said):
        with self.subTest(policy=policy, n=n, operation=operation):
            told = asked(policy, n, operation)
            self.assertEqual(told, said)
            # 0 and False are equal in Python, but not here.
            self.assertEqual(repr(told), repr(said))

    def assert_all(self, policy, n, by_name, by_other, by_none):
        """Each operation on the name a, on other names, and those that are on no name."""
        for word, operation in operations("a").items():
            self.assert_said(policy, n, operation, by_name.get(word, GO))
        for x in ("b", "aa", "abcdefgh"):
            for word, operation in operations(x).items():
                self.assert_said(policy, n, operation, by_other.get(word, GO))
        for word, operation in OTHERS.items():
            self.assert_said(policy, n, operation, by_none.get(word, GO))

    def test_without_rules(self):
        for n in (0, 1, 5):
            self.assert_all((), n, {}, {}, {})

    def test_each_rule_for_all_objects(self):
        for rule, (by_name, by_other) in SAID.items():
            for n in (0, 1, 5):
                self.assert_all((rule,), n, by_name, by_other, by_other)

    def test_each_rule_for_one_object(self):
        for rule, (by_name, by_other) in SAID.items():
            for n in (0, 1, 5):
                self.assert_all((("only", n, rule),), n, by_name, by_other, by_other)
                for other in (0, 1, 2, 4, 6, 50):
                    if other != n:
                        self.assert_all((("only", n, rule),), other, {}, {}, {})

    def test_rules_together(self):
        policy = (("only", 1, ("nocall",)), ("protect", "a"), ("hide", "b"), ("only", 2, ("hide", "a")))
        self.assert_all(policy[:2], 0, BY_PROTECT, {}, {})
        self.assert_all(policy[:2], 1, BY_PROTECT, {}, BY_NOCALL)
        for x, n, said in (("a", 1, BY_PROTECT), ("b", 1, BY_HIDE), ("a", 2, BY_HIDE), ("b", 2, BY_HIDE), ("c", 2, {})):
            for word, operation in operations(x).items():
                self.assert_said(policy, n, operation, said.get(word, GO))
        self.assert_all((("protect", "a"), ("hide", "a")), 0, BY_HIDE, {}, {})
        self.assert_all((("hide", "a"), ("protect", "a")), 0, BY_HIDE, {}, {})
        self.assert_all((("hide", "a"), ("readonly",)), 0, BY_HIDE, BY_READONLY, BY_READONLY)
        self.assert_all((("nocall",), ("readonly",)), 0, BY_READONLY, BY_READONLY, {**BY_READONLY, **BY_NOCALL})

    def test_other_members_and_values_make_no_difference(self):
        far = ("far", 0, "object")
        for member in (("data", ("int", 1), True), ("ask", NONE, NONE, False), ("ask", ("ref", 1), far, True)):
            self.assert_said((("hide", "a"),), 0, ("define", "a", member), DENIED)
            self.assert_said((("hide", "a"),), 0, ("define", "b", member), GO)
        for args in ((), (("text", "a"),), (NONE,) * 4):
            self.assert_said((("nocall",),), 0, ("call", ("ref", 0), args), DENIED)
            self.assert_said((("hide", "a"), ("readonly",), ("protect", "a")), 0, ("call", ("ref", 0), args), GO)


class ShownNamesTest(unittest.TestCase):
    NAMES = ["a", "b", "c", "me"]

    def assert_shown(self, policy, n, names, shown):
        with self.subTest(policy=policy, n=n, names=names):
            before = list(names)
            told = shown_names(policy, n, names)
            self.assertEqual(told, shown)
            self.assertIs(type(told), list)
            self.assertEqual(names, before)

    def test_hidden_names(self):
        self.assert_shown((("hide", "b"),), 0, self.NAMES, ["a", "c", "me"])
        self.assert_shown((("hide", "a"), ("hide", "me")), 3, self.NAMES, ["b", "c"])
        self.assert_shown(tuple(("hide", x) for x in self.NAMES), 3, self.NAMES, [])
        self.assert_shown((("hide", "z"),), 0, self.NAMES, self.NAMES)
        self.assert_shown((("hide", "a"),), 0, [], [])
        self.assert_shown((("hide", "a"),), 0, ["c", "b", "a"], ["c", "b"])

    def test_hidden_names_of_one_object(self):
        policy = (("only", 1, ("hide", "b")), ("only", 2, ("hide", "a")), ("hide", "c"))
        self.assert_shown(policy, 0, self.NAMES, ["a", "b", "me"])
        self.assert_shown(policy, 1, self.NAMES, ["a", "me"])
        self.assert_shown(policy, 2, self.NAMES, ["b", "me"])

    def test_other_rules_hide_nothing(self):
        rules = (("protect", "a"), ("readonly",), ("nocall",))
        self.assert_shown((), 0, self.NAMES, self.NAMES)
        self.assert_shown(rules, 0, self.NAMES, self.NAMES)
        self.assert_shown(tuple(("only", 0, rule) for rule in rules), 0, self.NAMES, self.NAMES)

    def test_the_list_is_a_new_one(self):
        names = ["a", "b"]
        told = shown_names((), 0, names)
        told.append("c")
        self.assertEqual(names, ["a", "b"])


if __name__ == "__main__":
    unittest.main()
