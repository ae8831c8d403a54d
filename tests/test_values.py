"""Values: is_value (o1), truth, kind and text_of (o3), combined (o4)."""

import unittest

from membrane.values import combined, is_value, kind, text_of, truth

BOUND = 18446744073709551616
OBJECT = ("object", (), ("none",), True)
FUNC = ("func", (), (), 0, (), True)
SCOPE = ("scope", (), -1)
HEAP = (SCOPE, OBJECT, FUNC, OBJECT)

# One value or more of each kind, with its kind, its text and its truth in HEAP.
TOLD = (
    (("none",), "none", "None", False),
    (("bool", True), "bool", "True", True),
    (("bool", False), "bool", "False", False),
    (("int", 0), "int", "0", False),
    (("int", 1), "int", "1", True),
    (("int", -1), "int", "-1", True),
    (("int", 42), "int", "42", True),
    (("int", -9070), "int", "-9070", True),
    (("int", BOUND - 1), "int", "18446744073709551615", True),
    (("int", 1 - BOUND), "int", "-18446744073709551615", True),
    (("text", ""), "text", "", False),
    (("text", " "), "text", " ", True),
    (("text", "0"), "text", "0", True),
    (("text", "False"), "text", "False", True),
    (("text", "a b\n~"), "text", "a b\n~", True),
    (("ref", 1), "object", "<object>", True),
    (("ref", 2), "function", "<function>", True),
    (("ref", 3), "object", "<object>", True),
    (("far", 0, "object"), "object", "<object>", True),
    (("far", 0, "function"), "function", "<function>", True),
    (("far", 7, "object"), "object", "<object>", True),
    (("revoker",), "revoker", "<revoker>", True),
)
VALUES = tuple(row[0] for row in TOLD)


def same_pair(a, b):
    """Whether the two are one of VALUES each, at the same place."""
    return VALUES.index(a) == VALUES.index(b)


class IsValueTest(unittest.TestCase):
    def assert_value(self, v):
        with self.subTest(v=v):
            self.assertIs(is_value(v), True)

    def assert_no_value(self, v):
        with self.subTest(v=v):
            self.assertIs(is_value(v), False)

    def test_each_kind_of_value(self):
        for v in VALUES:
            if v[0] not in ("ref", "far"):
                self.assert_value(v)

    def test_refs_and_fars_are_none(self):
        for v in (("ref", 0), ("ref", 1), ("far", 0, "object"), ("far", 3, "function")):
            self.assert_no_value(v)

    def test_bounds_of_integers(self):
        for n in (BOUND - 1, 1 - BOUND, BOUND - 2, 2 - BOUND):
            self.assert_value(("int", n))
        for n in (BOUND, -BOUND, BOUND + 1, -BOUND - 1, BOUND * BOUND, -BOUND * BOUND):
            self.assert_no_value(("int", n))

    def test_lengths_of_texts(self):
        for length in (0, 1, 199, 200):
            self.assert_value(("text", "a" * length))
            self.assert_value(("text", "\n" * length))
        for length in (201, 202, 5000):
            self.assert_no_value(("text", "a" * length))
            self.assert_no_value(("text", "\n" * length))

    def test_characters_of_texts(self):
        for code in list(range(300)) + [0x2028, 0xD800, 0x10FFFF]:
            allowed = code == 10 or (32 <= code <= 126 and code != 37)
            for text in (chr(code), "ab" + chr(code), chr(code) + "ab", "a" * 199 + chr(code)):
                with self.subTest(text=text):
                    self.assertIs(is_value(("text", text)), allowed)

    def test_named_characters(self):
        for text in ("\n", " ", "~", "a\nb c~"):
            self.assert_value(("text", text))
        for text in ("%", "\t", "a%", "a\tb", "\r", "\r\n", "\x7f", "\x1f", "\x00", "\xe9"):
            self.assert_no_value(("text", text))

    def test_booleans_are_no_integers(self):
        for v in (("int", True), ("int", False), ("bool", 1), ("bool", 0)):
            self.assert_no_value(v)

    def test_parts_of_another_kind(self):
        parts = (None, "a", "True", 1, True, (), (1,), ("int", 1), ("none",))
        for tag in ("bool", "int", "text"):
            for part in parts:
                right = (
                    tag == "bool" and part is True
                    or tag == "int" and part == 1 and part is not True
                    or tag == "text" and isinstance(part, str)
                )
                if not right:
                    self.assert_no_value((tag, part))

    def test_a_part_more_or_less(self):
        for v in (
            (),
            ("bool",),
            ("int",),
            ("text",),
            ("none", None),
            ("none", "none"),
            ("none", ()),
            ("revoker", None),
            ("revoker", 0),
            ("revoker", "revoker"),
            ("bool", True, True),
            ("int", 1, 1),
            ("int", 1, None),
            ("text", "a", "b"),
            ("text", "a", 0),
        ):
            self.assert_no_value(v)

    def test_other_words(self):
        for v in (
            ("None",), ("nothing",), ("",), (None,), (0,), (True,), (("none",),), ((),),
            ("object",), ("integer", 1), ("str", "a"), ("Int", 1), ("", 1), (None, 1), (1, 1),
            (("int",), 1), ("object", (), ("none",), True), ("scope", (), -1), ("int", 1, 2, 3),
        ):
            self.assert_no_value(v)

    def test_what_is_no_tuple(self):
        for v in (None, True, False, 0, 1, BOUND, "", "none", "int", "revoker", "ab"):
            self.assert_no_value(v)


class TruthTest(unittest.TestCase):
    def test_truth(self):
        for v, _, _, true in TOLD:
            with self.subTest(v=v):
                self.assertIs(truth(v), true)


class KindTest(unittest.TestCase):
    def test_kind(self):
        for v, word, _, _ in TOLD:
            with self.subTest(v=v):
                self.assertEqual(kind(list(HEAP), v), word)

    def test_a_closed_object_and_one_with_members(self):
        member = ("data", ("int", 1), False)
        heap = [("func", ("a",), (), 0, (("a", member),), False), ("object", (("a", member),), ("ref", 0), False)]
        self.assertEqual((kind(heap, ("ref", 0)), kind(heap, ("ref", 1))), ("function", "object"))

    def test_the_heap_stays_as_it_is(self):
        heap = list(HEAP)
        for v in VALUES:
            kind(heap, v)
            text_of(heap, v)
        self.assertEqual(heap, list(HEAP))


class TextTest(unittest.TestCase):
    def test_text(self):
        for v, _, text, _ in TOLD:
            with self.subTest(v=v):
                self.assertEqual(text_of(list(HEAP), v), text)

    def test_it_is_a_string(self):
        for v in VALUES:
            self.assertIs(type(text_of(list(HEAP), v)), str)
            self.assertIs(type(kind(list(HEAP), v)), str)

    def test_a_text_as_long_as_it_may_be(self):
        self.assertEqual(text_of([], ("text", "ab" * 100)), "ab" * 100)


class CombinedTest(unittest.TestCase):
    def assert_gives(self, op, a, b, v):
        with self.subTest(op=op, a=a, b=b):
            outcome = combined(op, a, b)
            self.assertEqual(outcome, ("value", v))
            # 1 and True are equal in Python, but not here.
            self.assertIs(type(outcome[1][1]), type(v[1]))

    def assert_refused(self, op, a, b, words):
        with self.subTest(op=op, a=a, b=b):
            self.assertEqual(combined(op, a, b), ("raise", words))

    def test_integers(self):
        for m in (-7, -1, 0, 1, 2, 9):
            for n in (-7, -2, 0, 1, 3, 9):
                self.assert_gives("+", ("int", m), ("int", n), ("int", m + n))
                self.assert_gives("-", ("int", m), ("int", n), ("int", m - n))
                self.assert_gives("*", ("int", m), ("int", n), ("int", m * n))
                self.assert_gives("<", ("int", m), ("int", n), ("bool", m < n))
        self.assertEqual(combined("-", ("int", 2), ("int", 5)), ("value", ("int", -3)))
        self.assertEqual(combined("<", ("int", -2), ("int", 1)), ("value", ("bool", True)))

    def test_texts(self):
        self.assert_gives("+", ("text", "ab"), ("text", "cd"), ("text", "abcd"))
        self.assert_gives("+", ("text", ""), ("text", ""), ("text", ""))
        self.assert_gives("+", ("text", "\n"), ("text", "b"), ("text", "\nb"))

    def test_order_of_texts(self):
        ascending = ("", "\n", " ", "!", "0", "10", "2", "A", "Z", "Za", "_", "a", "aa", "ab", "b", "~")
        for at, s in enumerate(ascending):
            for place, t in enumerate(ascending):
                self.assert_gives("<", ("text", s), ("text", t), ("bool", at < place))

    def test_pairs_of_all_kinds(self):
        for a in VALUES:
            for b in VALUES:
                both = (a[0], b[0])
                self.assert_gives("==", a, b, ("bool", same_pair(a, b)))
                for op in "+-*<":
                    allowed = both == ("int", "int") or (both == ("text", "text") and op in "+<")
                    if allowed:
                        with self.subTest(op=op, a=a, b=b):
                            self.assertNotEqual(combined(op, a, b), ("raise", "wrong kind"))
                    else:
                        self.assert_refused(op, a, b, "wrong kind")

    def test_booleans_are_no_integers(self):
        for boolean in (("bool", True), ("bool", False)):
            for other in (("int", 0), ("int", 1), ("bool", True), ("bool", False)):
                for op in "+-*<":
                    self.assert_refused(op, boolean, other, "wrong kind")
                    self.assert_refused(op, other, boolean, "wrong kind")
        self.assert_gives("==", ("int", 1), ("bool", True), ("bool", False))
        self.assert_gives("==", ("bool", False), ("int", 0), ("bool", False))
        self.assert_gives("==", ("bool", False), ("bool", False), ("bool", True))

    def test_equality_of_refs_and_fars(self):
        self.assert_gives("==", ("ref", 4), ("ref", 4), ("bool", True))
        self.assert_gives("==", ("ref", 4), ("ref", 5), ("bool", False))
        self.assert_gives("==", ("far", 1, "object"), ("far", 1, "object"), ("bool", True))
        self.assert_gives("==", ("far", 1, "object"), ("far", 2, "object"), ("bool", False))
        self.assert_gives("==", ("ref", 1), ("far", 1, "object"), ("bool", False))
        self.assert_gives("==", ("text", "1"), ("int", 1), ("bool", False))
        self.assert_gives("==", ("text", ""), ("none",), ("bool", False))

    def test_integers_at_the_bounds(self):
        top, low = BOUND - 1, 1 - BOUND
        for op, m, n, result in (
            ("+", top, 0, top),
            ("+", top - 1, 1, top),
            ("+", low, 0, low),
            ("+", low + 1, -1, low),
            ("+", top, low, 0),
            ("-", top, 0, top),
            ("-", top - 1, -1, top),
            ("-", low + 1, 1, low),
            ("-", 0, top, low),
            ("-", 0, low, top),
            ("*", top, 1, top),
            ("*", top, -1, low),
            ("*", low, -1, top),
            ("*", 4294967295, 4294967297, top),
            ("*", -4294967295, 4294967297, low),
        ):
            self.assert_gives(op, ("int", m), ("int", n), ("int", result))

    def test_integers_beyond_the_bounds(self):
        top, low = BOUND - 1, 1 - BOUND
        for op, m, n in (
            ("+", top, 1),
            ("+", 1, top),
            ("+", low, -1),
            ("+", top, top),
            ("+", low, low),
            ("-", top, -1),
            ("-", low, 1),
            ("-", -1, top),
            ("-", low, top),
            ("*", 4294967296, 4294967296),
            ("*", -4294967296, 4294967296),
            ("*", top, 2),
            ("*", low, low),
        ):
            self.assert_refused(op, ("int", m), ("int", n), "too large")

    def test_comparisons_at_the_bounds(self):
        top, low = ("int", BOUND - 1), ("int", 1 - BOUND)
        self.assert_gives("<", low, top, ("bool", True))
        self.assert_gives("<", top, low, ("bool", False))
        self.assert_gives("<", top, top, ("bool", False))
        self.assert_gives("==", top, top, ("bool", True))

    def test_lengths_of_texts(self):
        for s, t in ((200, 0), (0, 200), (100, 100), (1, 199)):
            self.assert_gives("+", ("text", "a" * s), ("text", "b" * t), ("text", "a" * s + "b" * t))
        for s, t in ((200, 1), (1, 200), (101, 100), (200, 200)):
            self.assert_refused("+", ("text", "a" * s), ("text", "b" * t), "too large")


if __name__ == "__main__":
    unittest.main()
