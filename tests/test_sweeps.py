"""What holds for every operation on every object (o5), and long chains of parents (o6)."""

import unittest
from itertools import product

from membrane.objects import members_of, perform

NONE = ("none",)
FAR = ("far", 0, "object")
NEW = ("data", ("int", 9), False)
MEMBERS = (
    None,
    ("data", ("int", 1), False),
    ("data", ("int", 1), True),
    ("ask", ("ref", 4), ("ref", 4), False),
    ("ask", ("ref", 4), ("ref", 4), True),
    ("ask", NONE, NONE, False),
    ("ask", NONE, NONE, True),
)
PARENTS = (NONE, ("ref", 0), ("far", 1, "function"))
RECEIVERS = (("ref", 2), ("ref", 0), FAR, ("text", "t"), NONE)
WORDS = ("no such name", "fixed", "closed", "too large", "not a function")
BEHIND = "bcdefghijklmnopqrstu"
CHANGING = ("put", "drop", "fix", "define", "close")


def all_things():
    """Objects and functions with each member a, open and closed, with few, 19 and 20 members."""
    for member, is_open, count in product(MEMBERS, (True, False), (1, 3, 19, 20)):
        own = () if member is None else (("a", member),)
        others = tuple((x, ("data", ("text", x), False)) for x in BEHIND[:count - len(own)])
        members = others[:1] + own + others[1:]
        yield ("func", ("p",), (), 0, members, is_open)
        for parent in PARENTS:
            yield ("object", members, parent, is_open)


def all_operations():
    """Each of the twelve operations on a, with each receiver."""
    for receiver in RECEIVERS:
        yield ("get", "a", receiver)
        yield ("put", "a", ("int", 9), receiver)
        yield ("call", receiver, (("int", 9),))
    for member in MEMBERS[1:]:
        yield ("define", "a", member)
    for word in ("has", "drop", "look", "fix"):
        yield (word, "a")
    for word in ("names", "parent", "close", "is_open"):
        yield (word,)


class SweepTest(unittest.TestCase):
    def outcomes(self):
        """Each operation on each thing: the thing, the operation, the outcome and the heap behind it."""
        around = ("object", (("a", ("data", ("int", 0), False)),), NONE, True)
        scope = ("scope", (("a", ("int", 0)),), -1)
        func = ("func", (), (), 1, (), True)
        for thing, operation in product(list(all_things()), list(all_operations())):
            heap = [around, scope, thing, around, func]
            outcome = perform(heap, 2, operation)
            self.assertEqual([heap[:2], heap[3:]], [[around, scope], [around, func]])
            yield thing, operation, outcome, heap[2]

    def test_the_shape_of_outcomes(self):
        for thing, operation, outcome, after in self.outcomes():
            told = (thing, operation, outcome)
            self.assertIs(type(outcome), tuple, told)
            self.assertIn((outcome[0], len(outcome)), (("value", 2), ("raise", 2), ("next", 4), ("enter", 5)), told)
            if outcome[0] == "raise":
                self.assertIn(outcome[1], WORDS, told)
            if outcome[0] == "next":
                self.assertIs(outcome[3], operation[0] != "put", told)
            if outcome[0] == "enter":
                self.assertIs(outcome[4], True, told)

    def test_only_what_ends_with_none_changes_something(self):
        for thing, operation, outcome, after in self.outcomes():
            if outcome != ("value", NONE) or operation[0] not in CHANGING:
                self.assertEqual(after, thing, (operation, outcome))

    def test_what_an_object_is_besides_its_members_stays(self):
        for thing, operation, outcome, after in self.outcomes():
            self.assertEqual(after[0], thing[0], operation)
            if thing[0] == "func":
                self.assertEqual(after[:4], thing[:4], operation)
                self.assertEqual(len(after), 6)
            else:
                self.assertEqual(after[2], thing[2], operation)
                self.assertEqual(len(after), 4)
            if operation[0] != "close":
                self.assertIs(after[-1], thing[-1], operation)

    def test_the_other_members_stay_in_their_order(self):
        for thing, operation, outcome, after in self.outcomes():
            others = [pair for pair in members_of(thing) if pair[0] != "a"]
            self.assertEqual([pair for pair in members_of(after) if pair[0] != "a"], others, operation)
            names = [x for x, _ in members_of(after)]
            before = [x for x, _ in members_of(thing)]
            if "a" in names and "a" in before:
                self.assertEqual(names, before, operation)
            elif "a" in names:
                self.assertEqual(names, before + ["a"], operation)
            self.assertLessEqual(len(names), 20)
            self.assertIs(type(members_of(after)), tuple)

    def test_a_receiver_that_is_the_object_alone_is_put_at_once(self):
        for thing, operation, outcome, after in self.outcomes():
            if operation[0] == "put" and after != thing:
                self.assertEqual(operation[3], ("ref", 2))
                self.assertIn(("a", NEW), members_of(after))


def chain(length):
    """A heap of objects, each with the next one as its parent; the last one has a and no parent."""
    heap = [("object", (("b", NEW),), ("ref", at + 1), True) for at in range(length - 1)]
    heap.append(("object", (("a", ("data", ("int", 1), False)),), NONE, True))
    return heap


def followed(heap, k, operation):
    """The last outcome that is no next, how many there were, and whether a use was False."""
    value, many, used = ("ref", k), 0, True
    while True:
        outcome = perform(heap, value[1], operation)
        many += 1
        if outcome[0] != "next":
            return outcome, many, used
        _, value, operation, use = outcome
        used = used and use


class ChainTest(unittest.TestCase):
    LENGTH = 3000

    def test_get(self):
        heap = chain(self.LENGTH)
        before = list(heap)
        self.assertEqual(followed(heap, 0, ("get", "a", ("ref", 0))), (("value", ("int", 1)), self.LENGTH, True))
        self.assertEqual(
            followed(heap, 0, ("get", "c", ("ref", 0))), (("raise", "no such name"), self.LENGTH, True)
        )
        self.assertEqual(heap, before)

    def test_has(self):
        heap = chain(self.LENGTH)
        self.assertEqual(followed(heap, 0, ("has", "a")), (("value", ("bool", True)), self.LENGTH, True))
        self.assertEqual(followed(heap, 0, ("has", "c")), (("value", ("bool", False)), self.LENGTH, True))
        self.assertEqual(followed(heap, 0, ("has", "b")), (("value", ("bool", True)), 1, True))

    def test_put_comes_back_to_the_receiver(self):
        for x in ("a", "c"):
            heap = chain(self.LENGTH)
            before = list(heap)
            outcome = followed(heap, 0, ("put", x, ("int", 7), ("ref", 0)))
            self.assertEqual(outcome, (("value", NONE), self.LENGTH + 1, False))
            self.assertEqual(members_of(heap[0]), (("b", NEW), (x, ("data", ("int", 7), False))))
            self.assertEqual(heap[1:], before[1:])

    def test_put_that_a_fixed_member_ends(self):
        heap = chain(self.LENGTH)
        perform(heap, self.LENGTH - 1, ("fix", "a"))
        before = list(heap)
        outcome = followed(heap, 0, ("put", "a", ("int", 7), ("ref", 0)))
        self.assertEqual(outcome, (("raise", "fixed"), self.LENGTH, False))
        self.assertEqual(heap, before)

    def test_put_that_a_closed_receiver_ends(self):
        heap = chain(self.LENGTH)
        perform(heap, 0, ("close",))
        before = list(heap)
        outcome = followed(heap, 0, ("put", "a", ("int", 7), ("ref", 0)))
        self.assertEqual(outcome, (("raise", "closed"), self.LENGTH + 1, False))
        self.assertEqual(heap, before)

    def test_a_getter_at_the_end(self):
        heap = chain(self.LENGTH)
        heap.append(("func", (), (), 0, (), True))
        perform(heap, self.LENGTH - 1, ("define", "a", ("ask", ("ref", self.LENGTH), NONE, False)))
        outcome = followed(heap, 0, ("get", "a", ("ref", 0)))
        self.assertEqual(outcome, (("enter", self.LENGTH, ("ref", 0), (), True), self.LENGTH + 1, True))


if __name__ == "__main__":
    unittest.main()
