"""check_block: what is a program (p1), and the shapes of its expressions and statements (p2)."""

import unittest

from membrane.errors import BadProgram
from membrane.programs import check_block

ONE = ("const", ("int", 1))
DO = ("do", ONE)
BLOCK = (DO,)
LETTERS = "abcdefghijklmnopqrstuvwxyz"

# Right expressions, one of each kind at least.
EXPRESSIONS = (
    ("const", ("none",)),
    ("const", ("bool", True)),
    ("const", ("bool", False)),
    ("const", ("int", 0)),
    ("const", ("int", 2 ** 64 - 1)),
    ("const", ("int", 1 - 2 ** 64)),
    ("const", ("text", "")),
    ("const", ("text", "a b\n~" + "x" * 195)),
    ("const", ("revoker",)),
    ("name", "a"),
    ("name", "me"),
    ("name", "abcdefgh"),
    ("name", "zzzzzzzz"),
    ("bin", "+", ONE, ("name", "b")),
    ("bin", "-", ONE, ONE),
    ("bin", "*", ONE, ONE),
    ("bin", "<", ONE, ONE),
    ("bin", "==", ONE, ONE),
    ("not", ONE),
    ("choice", ("name", "t"), ONE, ("name", "b")),
    ("object", (), ()),
    ("object", (), ("name", "p")),
    ("object", (("a", ONE),), ()),
    ("object", (("a", ONE), ("me", ("name", "b"))), ("name", "p")),
    ("func", (), BLOCK),
    ("func", ("a", "b", "c", "me"), BLOCK + BLOCK),
    ("get", ("name", "o"), "x"),
    ("has", ("name", "o"), "x"),
    ("names", ("name", "o")),
    ("look", ("name", "o"), "x"),
    ("parent", ("name", "o")),
    ("is_open", ("name", "o")),
    ("kind", ("name", "o")),
    ("call", ("name", "f"), ()),
    ("call", ("name", "f"), (ONE, ("name", "b"))),
    ("send", ("name", "o"), "x", ()),
    ("send", ("name", "o"), "x", (ONE, ("name", "b"))),
)

# Right statements, one of each kind at least.
STATEMENTS = (
    ("let", "x", ONE),
    ("set", "x", ONE),
    ("put", ("name", "o"), "x", ONE),
    ("drop", ("name", "o"), "x"),
    ("fix", ("name", "o"), "x"),
    ("close", ("name", "o")),
    ("ask", ("name", "o"), "x", ONE, ("name", "s")),
    ("if", ONE, BLOCK, ()),
    ("if", ONE, BLOCK, (DO, DO)),
    ("while", ONE, BLOCK),
    ("try", BLOCK, "e", BLOCK),
    ("raise", ONE),
    ("return", ONE),
    ("do", ONE),
    ("print", ONE),
)
ALL = tuple(("do", e) for e in EXPRESSIONS) + STATEMENTS

WRONG_NAMES = (
    "", "abcdefghi", "A", "aB", "a1", "1", "_", "a_b", "a b", " a", "a\n", "-", "\u00e4", "\u0430", "abc!", "`", "{",
    None, 0, 1, True, False, (), ("a",), ["a"], [],
)
WRONG_EXPRESSIONS = (
    None, 0, 1, -1, True, False, "", "a", "name", (), [], ("",), (("name", "a"),), ((),), ([],), (None,), (1,),
    ("let", "x", ONE), ("block", BLOCK), ("apply",), ("const",), ("name",), ("nothing", ONE), ("ref", 0), ("int", 1),
    ("far", 0, "object"), ("none",), ("revoker",), BLOCK, (("const",), ("int", 1)),
)
WRONG_BLOCKS = (
    None, 0, 1, True, False, "", "a", (), [], [DO], DO, (BLOCK,), (DO, BLOCK), ((DO,), (DO,)), (DO, None), (None,),
    (1,), (True,), ("do",), ("",), ((),), ([],), (DO, ()), (DO, list(DO)), (ONE,), (DO, ONE), (("block", BLOCK),),
)
WRONG_VALUES = (
    None, 0, 1, True, False, "", "text", (), [], ("none", 1), ("none", ()), ["none"], ("nothing",), (None,), ((),),
    ([],), ("bool",), ("bool", 0), ("bool", 1), ("bool", None), ("bool", "True"), ("bool", True, True), ("int",),
    ("int", True), ("int", False), ("int", "1"), ("int", None), ("int", (1,)), ("int", 1, 1), ("int", 2 ** 64),
    ("int", -2 ** 64), ("text",), ("text", 1), ("text", None), ("text", ("a",)), ("text", ["a"]), ("text", "a", "b"),
    ("text", "x" * 201), ("text", "%"), ("text", "\t"), ("text", "\r"), ("text", "\x7f"), ("text", "\u00e4"),
    ("ref", 0), ("ref", 1), ("far", 0, "object"), ("far", 0, "function"), ("revoker", 0), ["revoker"], "revoker",
    ("object", (), ("none",), True), ("left", 0, "object"),
)


def places(tree):
    """The places of all parts of a tree, the tree itself too, each a tuple of indexes."""
    found = [()]
    if isinstance(tree, tuple):
        for at, part in enumerate(tree):
            found.extend([(at,) + place for place in places(part)])
    return found


def part_at(tree, place):
    for at in place:
        tree = tree[at]
    return tree


def with_part(tree, place, part):
    """The tree with another part at a place."""
    if place == ():
        return part
    at = place[0]
    return tree[:at] + (with_part(tree[at], place[1:], part),) + tree[at + 1:]


def chain(count, e=ONE):
    """An expression with so many levels more than e."""
    for _ in range(count):
        e = ("not", e)
    return e


def nested(count, word="if", statement=DO):
    """A statement with so many blocks in one another, the last one with the statement told."""
    for _ in range(count):
        if word == "if":
            statement = ("if", ONE, (statement,), ())
        elif word == "else":
            statement = ("if", ONE, BLOCK, (statement,))
        elif word == "while":
            statement = ("while", ONE, (statement,))
        elif word == "try":
            statement = ("try", (statement,), "x", BLOCK)
        elif word == "handler":
            statement = ("try", BLOCK, "x", (statement,))
        else:
            statement = ("do", ("func", (), (statement,)))
    return statement


NESTING = ("if", "else", "while", "try", "handler", "func")


class ProgramTest(unittest.TestCase):
    def assert_right(self, *statements):
        with self.subTest(statements=statements):
            self.assertIsNone(check_block(statements))

    def assert_wrong_block(self, block):
        with self.subTest(block=block):
            with self.assertRaises(BadProgram) as caught:
                check_block(block)
            self.assertIs(type(caught.exception), BadProgram)

    def assert_wrong(self, *statements):
        self.assert_wrong_block(statements)


class ShapesTest(ProgramTest):
    def test_right_ones(self):
        for statement in ALL:
            self.assert_right(statement)
        self.assert_right(*ALL)

    def test_each_expression_in_each_place(self):
        for e in EXPRESSIONS:
            for statement in STATEMENTS:
                for place in places(statement):
                    if part_at(statement, place) == ONE:
                        self.assert_right(with_part(statement, place, e))
            for other in EXPRESSIONS:
                for place in places(other):
                    if part_at(other, place) == ONE and place != ():
                        self.assert_right(("do", with_part(other, place, e)))

    def test_each_statement_in_each_block(self):
        for statement in ALL:
            for word in NESTING:
                self.assert_right(nested(2, word, statement))

    def test_a_part_less_or_more(self):
        for statement in ALL:
            wholes = [statement, statement[1]] if statement[0] == "do" else [statement]
            for whole in wholes:
                place = () if whole == statement else (1,)
                for shorter in (whole[:-1], whole[:1], (), whole[:1] + whole[2:]):
                    self.assert_wrong(with_part(statement, place, shorter))
                for more in (None, 1, True, "a", (), ONE, BLOCK):
                    self.assert_wrong(with_part(statement, place, whole + (more,)))
                    self.assert_wrong(with_part(statement, place, (more,) + whole))

    def test_another_word(self):
        words = (
            "", "Let", "let ", "lets", "letx", "block", "apply", "exp", "answer", None, 0, True, (), ["let"], ("let",),
        )
        for statement in ALL:
            for word in words:
                self.assert_wrong((word,) + statement[1:])
                self.assert_wrong(("do", (word,) + ("name", "o")))
                if statement[0] == "do":
                    self.assert_wrong(("do", (word,) + statement[1][1:]))

    def test_a_list_where_a_tuple_is_asked(self):
        for statement in ALL:
            for place in places(statement):
                part = part_at(statement, place)
                if isinstance(part, tuple):
                    self.assert_wrong(with_part(statement, place, list(part)))
            self.assert_wrong_block([statement])

    def test_none_lists_and_deep_trees_anywhere(self):
        deep = ()
        for _ in range(50000):
            deep = (deep,)
        for statement in ALL:
            for place in places(statement):
                self.assert_wrong(with_part(statement, place, None))
                self.assert_wrong(with_part(statement, place, []))
                self.assert_wrong(with_part(statement, place, ("x", "x", ("x",))))
                with self.assertRaises(BadProgram):
                    check_block((with_part(statement, place, deep),))

    def test_integers_and_booleans_in_wrong_places(self):
        for statement in ALL:
            for place in places(statement):
                part = part_at(statement, place)
                for wrong in (0, 1, -1, True, False):
                    if type(wrong) is not type(part):
                        self.assert_wrong(with_part(statement, place, wrong))

    def test_names(self):
        right = ("a", "z", "me", "ab", "abcdefg", "abcdefgh", "left", "none")
        for x in right + WRONG_NAMES:
            check = self.assert_right if x in right else self.assert_wrong
            check(("do", ("name", x)))
            check(("do", ("object", ((x, ONE),), ())))
            check(("do", ("object", (("o", ONE), (x, ONE)), ())))
            check(("do", ("func", (x,), BLOCK)))
            check(("do", ("func", ("o", x), BLOCK)))
            for word in ("get", "has", "look"):
                check(("do", (word, ONE, x)))
            check(("do", ("send", ONE, x, ())))
            check(("let", x, ONE))
            check(("set", x, ONE))
            check(("put", ONE, x, ONE))
            check(("drop", ONE, x))
            check(("fix", ONE, x))
            check(("ask", ONE, x, ONE, ONE))
            check(("try", BLOCK, x, BLOCK))

    def test_wrong_expressions(self):
        for statement in ALL:
            for place in places(statement):
                if part_at(statement, place) == ONE:
                    for wrong in WRONG_EXPRESSIONS:
                        self.assert_wrong(with_part(statement, place, wrong))
        for wrong in WRONG_EXPRESSIONS:
            if wrong != ():
                self.assert_wrong(("do", ("object", (), wrong)))

    def test_wrong_blocks(self):
        for wrong in WRONG_BLOCKS:
            self.assert_wrong_block(wrong)
            self.assert_wrong(("if", ONE, wrong, ()))
            if wrong != () or not isinstance(wrong, tuple):
                self.assert_wrong(("if", ONE, BLOCK, wrong))
            self.assert_wrong(("while", ONE, wrong))
            self.assert_wrong(("try", wrong, "x", BLOCK))
            self.assert_wrong(("try", BLOCK, "x", wrong))
            self.assert_wrong(("do", ("func", (), wrong)))

    def test_constants(self):
        for wrong in WRONG_VALUES:
            self.assert_wrong(("do", ("const", wrong)))
            self.assert_wrong(("print", ("not", ("const", wrong))))

    def test_operators(self):
        wrong = ("", "/", "//", "+-", "**", "!=", ">", "<=", "=", "and", "plus", " +", None, 0, True, (), ("+",), ["+"])
        for op in wrong:
            self.assert_wrong(("do", ("bin", op, ONE, ONE)))

    def test_pairs(self):
        for wrong in (
            None, 1, True, "", "ab", ("a", ONE), (("a",),), (("a", ONE, ONE),), ((ONE, "a"),), (["a", ONE],),
            [("a", ONE)], (("a", ONE), "bc"), ("ab",), ((),), (None,), (("a", ONE), ("b", None)), (("a", "b"),), [],
            ("",),
        ):
            self.assert_wrong(("do", ("object", wrong, ())))

    def test_parameters_and_arguments(self):
        for wrong in (None, 0, True, "", "a", "ab", ["a"], [], {}, (("a",),), (("a", "b"),), (None,), (1,)):
            self.assert_wrong(("do", ("func", wrong, BLOCK)))
            self.assert_wrong(("do", ("call", ONE, wrong)))
            self.assert_wrong(("do", ("send", ONE, "x", wrong)))
        self.assert_wrong(("do", ("call", ONE, ONE)))
        self.assert_wrong(("do", ("call", ONE, [ONE])))
        self.assert_wrong(("do", ("send", ONE, "x", ONE)))
        self.assert_wrong(("do", ("send", ONE, "x", [ONE])))

    def test_one_wrong_statement_among_right_ones(self):
        self.assert_wrong(*ALL, ("let", "x"))
        self.assert_wrong(("let", "x"), *ALL)
        self.assert_wrong(DO, ("do", ("bin", "+", ("name", ""), ONE)), DO)
        self.assert_wrong(DO, ("do", ("bin", "+", ONE, ("name", ""))), DO)

    def test_nothing_is_changed(self):
        block = [["do", ["const", ["none"]]], ("do", [("const",)])]
        with self.assertRaises(BadProgram):
            check_block(block)
        self.assertEqual(block, [["do", ["const", ["none"]]], ("do", [("const",)])])


class LimitsTest(ProgramTest):
    def test_levels(self):
        self.assert_right(("do", chain(7)))
        self.assert_wrong(("do", chain(8)))
        self.assert_wrong(("do", chain(9)))

    def test_levels_of_each_statement(self):
        for statement in STATEMENTS:
            for place in places(statement):
                if part_at(statement, place) in (ONE, ("name", "o"), ("name", "s")):
                    self.assert_right(with_part(statement, place, chain(7)))
                    self.assert_wrong(with_part(statement, place, chain(8)))

    def test_levels_of_each_expression(self):
        for e in EXPRESSIONS:
            for place in places(e):
                part = part_at(e, place)
                ours = place != () and e[0] not in ("const", "name", "func")
                if ours and isinstance(part, tuple) and part[:1] in (("const",), ("name",)):
                    self.assert_right(("do", with_part(e, place, chain(6))))
                    self.assert_wrong(("do", with_part(e, place, chain(7))))
                    self.assert_right(("do", chain(5, with_part(e, place, chain(1)))))
                    self.assert_wrong(("do", chain(6, with_part(e, place, chain(1)))))

    def test_the_levels_of_an_expression_without_parts(self):
        for e in (ONE, ("name", "a"), ("object", (), ()), ("func", ("a",), BLOCK)):
            self.assert_right(("do", chain(7, e)))
            self.assert_wrong(("do", chain(8, e)))

    def test_the_greatest_level_of_the_parts_counts(self):
        for count, check in ((6, self.assert_right), (7, self.assert_wrong)):
            check(("do", ("bin", "+", chain(count), ONE)))
            check(("do", ("bin", "+", ONE, chain(count))))
            check(("do", ("object", (("a", chain(count)), ("b", ONE)), ONE)))
            check(("do", ("object", (("a", ONE), ("b", chain(count))), ONE)))
            check(("do", ("object", (("a", ONE), ("b", ONE)), chain(count))))
            check(("do", ("call", ONE, (ONE, ONE, ONE, chain(count)))))
            check(("do", ("send", chain(count), "x", (ONE,))))

    def test_a_block_in_a_func_does_not_count_as_a_level(self):
        inner = ("func", (), (("do", chain(7)),))
        self.assert_right(("do", inner))
        self.assert_right(("do", chain(7, inner)))
        self.assert_wrong(("do", chain(7, ("func", (), (("do", chain(8)),)))))
        self.assert_wrong(("do", chain(8, inner)))

    def test_blocks_around_a_statement(self):
        for word in NESTING:
            self.assert_right(nested(5, word))
            self.assert_wrong(nested(6, word))
            self.assert_wrong(nested(7, word))

    def test_blocks_of_all_kinds_count(self):
        for outer in NESTING:
            for inner in NESTING:
                self.assert_right(nested(2, outer, nested(3, inner)))
                self.assert_wrong(nested(3, outer, nested(3, inner)))

    def test_levels_of_expressions_do_not_count_as_blocks(self):
        inner = ("func", (), (("return", chain(7)),))
        self.assert_right(nested(4, "if", ("do", chain(7, inner))))
        self.assert_wrong(nested(5, "if", ("do", chain(7, inner))))

    def test_an_empty_block_holds_no_statement(self):
        self.assert_right(nested(4, "if", ("if", ONE, BLOCK, ())))
        self.assert_wrong(nested(5, "if", ("if", ONE, BLOCK, ())))

    def test_blocks_beside_one_another_do_not_add_up(self):
        self.assert_right(*[nested(5, word) for word in NESTING * 3])

    def test_parameters(self):
        self.assert_right(("do", ("func", ("a", "b", "c", "d"), BLOCK)))
        self.assert_wrong(("do", ("func", ("a", "b", "c", "d", "e"), BLOCK)))
        self.assert_wrong(("do", ("func", ("a", "a"), BLOCK)))
        self.assert_wrong(("do", ("func", ("a", "b", "c", "a"), BLOCK)))
        self.assert_right(("do", ("func", ("a",), (("do", ("func", ("a",), BLOCK)),))))

    def test_arguments(self):
        for many, check in ((4, self.assert_right), (5, self.assert_wrong), (6, self.assert_wrong)):
            check(("do", ("call", ONE, (ONE,) * many)))
            check(("do", ("send", ONE, "x", (ONE,) * many)))

    def test_pairs(self):
        pairs = tuple((x, ONE) for x in LETTERS)
        self.assert_right(("do", ("object", pairs[:20], ())))
        self.assert_wrong(("do", ("object", pairs[:21], ())))
        self.assert_wrong(("do", ("object", pairs[:19] + pairs[:1], ())))
        self.assert_wrong(("do", ("object", pairs[:1] * 2, ONE)))
        self.assert_right(("do", ("object", (("a", ("object", pairs[:20], ())),), ())))

    def test_statements(self):
        self.assert_right(*[DO] * 200)
        self.assert_wrong(*[DO] * 201)
        for word in NESTING:
            for place in places(nested(1, word)):
                if part_at(nested(1, word), place) == BLOCK:
                    self.assert_right(with_part(nested(1, word), place, BLOCK * 200))
                    self.assert_wrong(with_part(nested(1, word), place, BLOCK * 201))

    def test_empty_blocks(self):
        self.assert_wrong_block(())
        self.assert_right(("if", ONE, BLOCK, ()))
        self.assert_wrong(("if", ONE, (), BLOCK))
        self.assert_wrong(("if", ONE, (), ()))
        self.assert_wrong(("while", ONE, ()))
        self.assert_wrong(("try", (), "x", BLOCK))
        self.assert_wrong(("try", BLOCK, "x", ()))
        self.assert_wrong(("do", ("func", (), ())))


if __name__ == "__main__":
    unittest.main()
