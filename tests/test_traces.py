"""check_trace: where events may stand, and of what shape they are (t1)."""

import random
import unittest

from drawing import drawn
from reading import first_wrong

from membrane.errors import BadTrace
from membrane.traces import check_trace
from membrane.world import World

NONE = ("none",)
END = ("end",)
DENIED = ("denied",)
REVOKE = ("revoke",)
GIVEN = ("reply", True, NONE)
LEFT, RIGHT = ("turn", "left"), ("turn", "right")
OTHER = {"left": "right", "right": "left"}

# Each side has handed over an object and a function.
START = (
    ("handed", "left", "a", ("left", 0, "object")), ("handed", "right", "b", ("right", 0, "object")),
    ("handed", "left", "c", ("left", 1, "function")), ("handed", "right", "d", ("right", 1, "function")),
)

# What is none of the things that stand in an event, whatever is looked for there but a value or arguments.
JUNK = (
    None, True, False, 0, -1, 5, "", "zz9", "LEFT", (), (0,), ((),), (None,), ("none",), ("left",), (("turn", "left"),),
)


def ask(side, operation=("names",), n=0, depth=0):
    return ("request", side, depth, n, operation)


def wrong_place(trace):
    """The index that BadTrace tells, or None."""
    try:
        told = check_trace(trace)
    except BadTrace as error:
        return error.place
    if told is not None:
        raise AssertionError(told)
    return None


class TraceCase(unittest.TestCase):
    def stands(self, *events):
        self.assertIsNone(wrong_place(events), events)

    def fails(self, *events):
        """The last of the events is the first that cannot stand there, whatever comes behind it."""
        self.assertEqual(repr(wrong_place(events)), repr(len(events) - 1), events)
        for behind in (END, REVOKE, LEFT, ("handed", "left", "x", NONE), None):
            self.assertEqual(wrong_place(events + (behind,)), len(events) - 1)

    def fail_each(self, events, lasts):
        """Each of the lasts fails behind the events."""
        self.stands(*events)
        for last in lasts:
            self.fails(*events, last)

    def stand_each(self, events, lasts):
        for last in lasts:
            self.stands(*events, last)


class PlaceTest(TraceCase):
    """Where an event may stand, without a look at its values."""

    def test_no_event(self):
        self.stands()

    def test_at_rest(self):
        for events in ((), START, (LEFT, END), START + (RIGHT, ask("right"), GIVEN, END)):
            handed = (("handed", "left", "x", NONE), ("handed", "right", "x", NONE))
            self.stand_each(events, (LEFT, RIGHT, REVOKE) + handed)
            self.fail_each(events, (END, DENIED, GIVEN, ("reply", False, NONE), ask("left"), ask("right")))

    def test_while_a_side_runs(self):
        for side in OTHER:
            events = START + (("turn", side),)
            self.stand_each(events, (ask(side), END, REVOKE))
            self.fail_each(events, (
                ask(OTHER[side]), LEFT, RIGHT, DENIED, GIVEN, ("handed", "left", "x", NONE),
                ("handed", "right", "x", NONE),
            ))

    def test_while_a_side_waits(self):
        for side, other in OTHER.items():
            events = START + (("turn", side), ask(side))
            self.stand_each(events, (ask(other), DENIED, GIVEN, ("reply", False, NONE), REVOKE))
            self.fail_each(events, (ask(side), END, LEFT, RIGHT, ("handed", side, "x", NONE)))

    def test_while_both_wait(self):
        for side, other in OTHER.items():
            events = START + (("turn", side), ask(side), ask(other))
            self.stand_each(events, (ask(side), DENIED, GIVEN, REVOKE))
            self.fail_each(events, (ask(other), END, LEFT, RIGHT))

    def test_the_one_that_began_to_wait_last_runs_again(self):
        for side, other in OTHER.items():
            for reply in (GIVEN, DENIED, ("reply", False, ("int", 1))):
                events = START + (("turn", side), ask(side), ask(other), ask(side), reply)
                self.fail_each(events, (ask(other), END, LEFT))
                self.stand_each(events, (ask(side), DENIED, GIVEN, REVOKE))
                events += (reply,)
                self.fail_each(events, (ask(side), END))
                self.stand_each(events, (ask(other), GIVEN))
                events += (reply,)
                self.fail_each(events, (ask(other), DENIED, GIVEN))
                self.stand_each(events, (ask(side), END))

    def test_replies_to_whatever_was_asked(self):
        for operation in (("names",), ("has", "x"), ("get", "x", NONE), ("close",), ("call", NONE, ())):
            events = START + (LEFT, ask("left", operation))
            replies = (("reply", False, ("text", "t")), ("reply", True, ("left", 0, "object")))
            self.stand_each(events, (DENIED, GIVEN) + replies)

    def test_an_end_brings_rest(self):
        for side in OTHER:
            events = START + (("turn", side), ask(side), GIVEN, END)
            self.fail_each(events, (END, ask(side), ask(OTHER[side]), GIVEN, DENIED))
            self.stand_each(events, (LEFT, RIGHT, REVOKE))

    def test_revoke_at_most_once(self):
        for side in OTHER:
            for events in ((), START, (LEFT,), START + (("turn", side), ask(side)), (LEFT, END)):
                self.stands(*events, REVOKE)
                self.fails(*events, REVOKE, REVOKE)
            self.fails(REVOKE, ("turn", side), REVOKE)
            self.fails(("turn", side), REVOKE, END, REVOKE)

    def test_behind_revoke_at_rest(self):
        for events in ((), START, (LEFT, END)):
            events += (REVOKE,)
            self.stand_each(events, (LEFT, RIGHT))
            self.fail_each(events, (
                END, DENIED, GIVEN, ask("left"), ask("right"), ("handed", "left", "x", NONE),
                ("handed", "right", "x", NONE),
            ))
            for side in OTHER:
                self.stands(*events, ("turn", side), END, ("turn", OTHER[side]), END)
                self.fail_each(events + (("turn", side),), (ask(side), ask(OTHER[side]), DENIED, GIVEN, LEFT, RIGHT))

    def test_behind_revoke_while_sides_wait(self):
        for side, other in OTHER.items():
            for asked in ((), (ask(side),), (ask(side), ask(other)), (ask(side), ask(other), ask(side))):
                events = START + (("turn", side),) + asked + (REVOKE,)
                self.fail_each(events, (
                    ask(side), ask(other), DENIED, GIVEN, ("reply", False, NONE), LEFT, RIGHT,
                    ("handed", side, "x", NONE),
                ))
                self.stands(*events, END)
                # They wait no more.
                wrong = (END, DENIED, GIVEN, ask(side), ask(other), ("handed", side, "x", NONE))
                self.fail_each(events + (END,), wrong)
                self.stands(*events, END, ("turn", other), END, ("turn", side), END)


class ShapeTest(TraceCase):
    """The shapes of events, each where an event of this kind may stand."""

    def test_what_is_no_event(self):
        deep = ()
        for _ in range(100000):
            deep = (deep,)
        wrong = JUNK + (
            deep, ("turn", deep), (deep, "left"), "turn", ("Turn", "left"), ("turns", "left"), ("request",), ("reply",),
            ("handed",), ("end", "left"), ("end", ()), ("", "left"), (True, "left"), ("none",), (0, 0, 0, 0, 0),
            ("hand",),
        )
        for events in ((), START, (LEFT,), START + (LEFT, ask("left")), (REVOKE,), (LEFT, REVOKE)):
            for last in wrong:
                self.assertEqual(wrong_place(events + (last,)), len(events))

    def test_turn(self):
        self.fail_each((), [("turn",), ("turn", "left", "left")] + [("turn", side) for side in JUNK])

    def test_words_alone(self):
        for events, word in (((LEFT,), "end"), ((), "revoke"), (START + (LEFT, ask("left")), "denied")):
            self.stands(*events, (word,))
            self.fail_each(events, [(word, thing) for thing in JUNK + ("left",)])

    def test_handed(self):
        for side in OTHER:
            self.stand_each((), [("handed", side, x, NONE) for x in ("a", "me", "abcdefgh", "zzzzzzzz")])
            self.fail_each((), [("handed", side, x, NONE) for x in JUNK + ("A", "a1", "abcdefghi", "a b", "a\n", "_")])
            self.fail_each((), [("handed", side, "x", v) for v in NO_VALUES])
            self.fail_each((), [("handed", side, "x"), ("handed", side), ("handed", side, "x", NONE, NONE)])
        self.fail_each((), [("handed", side, "x", NONE) for side in JUNK])

    def test_reply(self):
        events = START + (LEFT, ask("left"))
        self.stand_each(events, [("reply", ok, v) for ok in (True, False) for v in VALUES])
        self.fail_each(events, [("reply", ok, NONE) for ok in JUNK if ok is not True and ok is not False])
        self.fail_each(events, [("reply", 1, NONE), ("reply", 0, NONE), ("reply", True), ("reply",)])
        self.fail_each(events, [("reply", True, v) for v in NO_VALUES] + [("reply", True, NONE, NONE)])

    def test_request(self):
        events = START + (LEFT,)
        self.stand_each(events, [ask("left", depth=depth) for depth in range(21)])
        wrong = [depth for depth in JUNK if depth not in (0, 5)] + [21, 100, 10 ** 30, True, False]
        self.fail_each(events, [ask("left", depth=depth) for depth in wrong])
        self.fail_each(events, [ask(side) for side in JUNK + ("right",)])
        self.fail_each(events, [
            ("request", "left", 0, 0), ("request", "left", 0, 0, ("names",), NONE), ("request", "left"), ("request",),
        ])

    def test_the_number_of_a_request(self):
        for side in OTHER:
            events = (("turn", side),)
            self.fail_each(events, [ask(side, n=n) for n in (0, 1, -1)])
            events = START + (("turn", side),)
            self.stand_each(events, [ask(side, n=n) for n in (0, 1)])
            self.fail_each(events, [ask(side, n=n) for n in (2, 3, -1, -2, 10 ** 30, True, False, None, "0", (), (0,))])
        # It is the number of objects of the other side, not of its own.
        given = (("handed", "left", "a", ("left", 0, "object")),)
        self.fails(*given, LEFT, ask("left"))
        self.stands(*given, RIGHT, ask("right"))

    def test_the_number_of_what_crosses_in_the_request_itself_is_none(self):
        given = (("handed", "right", "f", ("right", 0, "function")), LEFT)
        crossing = ("call", NONE, (("left", 0, "object"),))
        self.stands(*given, ask("left", crossing), ask("right"))
        self.fails(*given, ask("left", crossing, n=1))
        self.fails(*given, ask("left", crossing), ask("right", n=1))

    def test_operations(self):
        self.stand_each(START + (LEFT,), [ask("left", operation) for operation in OPERATIONS])
        self.stand_each(START + (RIGHT,), [ask("right", operation) for operation in OPERATIONS])

    def test_operations_with_each_value(self):
        for v in VALUES:
            self.stand_each(START + (LEFT,), [ask("left", operation) for operation in operations_with(v)])
        for v in NO_VALUES:
            self.fail_each(START + (LEFT,), [ask("left", operation) for operation in operations_with(v)])

    def test_wrong_operations(self):
        self.fail_each(START + (LEFT,), [ask("left", operation) for operation in JUNK + WRONG_OPERATIONS])

    def test_names_in_operations(self):
        wrong = [x for x in JUNK + ("A", "abcdefghi", "a b", "a1", "x ")]
        for operation in OPERATIONS:
            if operation[0] not in ("names", "parent", "close", "is_open", "call"):
                for x in wrong:
                    self.fails(*START, LEFT, ask("left", operation[:1] + (x,) + operation[2:]))

    def test_members(self):
        wrong = (
            (), ("data",), ("data", NONE), ("data", NONE, 0), ("data", NONE, 1), ("data", NONE, None),
            ("data", NONE, NONE, False), ("ask", NONE, False), ("ask", NONE, NONE), ("ask", NONE, NONE, 0),
            ("ask", NONE, NONE, NONE, False), ("Data", NONE, False), ("other", NONE, False), NONE,
            ("data", False, NONE),
        )
        self.fail_each(START + (LEFT,), [ask("left", ("define", "x", member)) for member in JUNK + wrong])

    def test_arguments(self):
        many = ((), (NONE,), (NONE,) * 4, (("int", 1), ("left", 0, "object"), ("right", 1, "function")))
        self.stand_each(START + (LEFT,), [ask("left", ("call", NONE, args)) for args in many])
        wrong = ((NONE,) * 5, (NONE, None), (NONE, ()), (NONE, "none"), NONE, "", None, 0, ("int", 1), (1,))
        self.fail_each(START + (LEFT,), [ask("left", ("call", NONE, args)) for args in wrong])

    def test_any_junk_at_any_place(self):
        # Each part of an event that can stand, with something else in its place: BadTrace at most.
        for events, last in (
            ((), LEFT), ((LEFT,), END), ((), START[0]), (START + (LEFT,), ask("left", ("put", "x", NONE, NONE))),
            (START + (LEFT, ask("left")), GIVEN), ((), REVOKE),
            (START + (LEFT,), ask("left", ("define", "x", ("ask", NONE, ("left", 0, "object"), True)))),
        ):
            for path in paths(last):
                for thing in JUNK + (("int", 1), "left", ("left", 0, "object"), "object", True, 1):
                    place = wrong_place(events + (with_part(last, path, thing),))
                    self.assertIn(place, (None, len(events)))


VALUES = (
    NONE, ("bool", True), ("bool", False), ("int", 0), ("int", -(2 ** 64) + 1), ("int", 2 ** 64 - 1), ("text", ""),
    ("text", "a b~\n"), ("text", "t" * 200), ("revoker",), ("left", 0, "object"), ("right", 0, "object"),
    ("left", 1, "function"), ("right", 1, "function"),
)
NO_VALUES = (
    None, True, False, 0, 5, "", "none", (), ("ref", 0), ("ref", 1), ("far", 0, "object"), ("far", 1, "function"),
    ("none", 0),
    ("bool",), ("bool", 0), ("bool", 1), ("bool", None), ("int", True), ("int", "1"), ("int",), ("int", 2 ** 64),
    ("int", -(2 ** 64)), ("text", 5), ("text", "t" * 201), ("text", chr(37)), ("text", chr(9)), ("text", chr(233)),
    ("text",),
    ("text", "a", "b"), ("revoker", 1), ("revoker", ()), ("object", 0), ("left",), ("left", 0),
    ("left", 0, "object", 0),
    ("left", 0, "Object"), ("left", 0, "func"), ("left", 0, "int"), ("left", 0, 0), ("left", 0, None),
    ("left", 0, ("object",)),
    ("left", True, "function"), ("left", False, "object"), ("left", -1, "object"), ("left", None, "object"),
    ("left", "0", "object"), ("left", (0,), "object"), ("Left", 0, "object"), ("", 0, "object"), (0, 0, "object"),
    (("left",), 0, "object"), (None, 0, "object"), (True, 0, "object"), ("none", 0, "object"),
)
OPERATIONS = (
    ("get", "x", NONE), ("put", "x", NONE, NONE), ("has", "x"), ("drop", "x"), ("look", "x"), ("fix", "x"),
    ("define", "x", ("data", NONE, False)), ("define", "x", ("data", NONE, True)),
    ("define", "x", ("ask", NONE, NONE, False)), ("define", "x", ("ask", NONE, NONE, True)), ("names",), ("parent",),
    ("close",), ("is_open",), ("call", NONE, ()),
)
WRONG_OPERATIONS = (
    ("get",), ("get", "x"), ("get", "x", NONE, NONE), ("get", NONE, "x"), ("put", "x", NONE), ("put", "x"),
    ("put", "x", NONE, NONE, NONE), ("has",), ("has", "x", NONE), ("drop", "x", "x"), ("look",), ("fix",),
    ("define", "x"), ("define", "x", NONE), ("define", "x", ("data", NONE, False), NONE), ("names", "x"),
    ("parent", NONE),
    ("close", True), ("is_open", ()), ("call",), ("call", NONE), ("call", ()), ("call", (), NONE),
    ("call", NONE, (), ()),
    ("call", NONE, NONE), ("Get", "x", NONE), ("ask", "x", NONE), ("set", "x", NONE), ("kind",), ("send", "x"), "names",
    ("", "x"), (("names",),), (True,), ("data", NONE, False),
)


def operations_with(v):
    """Operations with a value at each place where one may stand."""
    return (
        ("get", "x", v), ("put", "x", v, NONE), ("put", "x", NONE, v), ("define", "x", ("data", v, False)),
        ("define", "x", ("ask", v, NONE, True)), ("define", "x", ("ask", NONE, v, False)), ("call", v, ()),
        ("call", NONE, (v,)), ("call", NONE, (NONE, NONE, NONE, v)),
    )


def paths(thing, path=()):
    """Where the parts of a tuple stand, also those in its parts."""
    if isinstance(thing, tuple):
        for at, part in enumerate(thing):
            yield path + (at,)
            yield from paths(part, path + (at,))


def with_part(thing, path, part):
    """The tuple with something else at the place."""
    if path == ():
        return part
    at = path[0]
    return thing[:at] + (with_part(thing[at], path[1:], part),) + thing[at + 1:]


class CrossingTest(TraceCase):
    """What (owner, n, what) may stand for."""

    def test_the_next_number_of_the_side_that_gives(self):
        for side, other in OTHER.items():
            for what in ("object", "function"):
                self.stands(("handed", side, "x", (side, 0, what)))
                self.fail_each((), [
                    ("handed", side, "x", (other, 0, what)), ("handed", side, "x", (side, 1, what)),
                    ("handed", side, "x", (side, -1, what)), ("handed", side, "x", (side, 10 ** 30, what)),
                ])
            events = START
            self.stands(*events, ("handed", side, "x", (side, 2, "object")), ("handed", side, "x", (side, 3, "object")))
            wrong = [(side, 3, "object"), (other, 2, "object")]
            self.fail_each(events, [("handed", side, "x", value) for value in wrong])

    def test_again(self):
        for side in OTHER:
            for owner in OTHER:
                self.stand_each(START, [("handed", side, "x", (owner, n, what)) for n, what in (
                    (0, "object"), (1, "function"))])
                self.fail_each(START, [("handed", side, "x", (owner, n, what)) for n, what in (
                    (0, "function"), (1, "object"))])

    def test_what_is_the_one_that_was_told_first(self):
        for side, other in OTHER.items():
            given = ("handed", side, "x", (side, 0, "function"))
            self.stands(given, ("turn", other), ask(other), ("reply", True, (side, 0, "function")))
            self.fails(given, ("turn", other), ask(other), ("reply", True, (side, 0, "object")))
            self.fails(given, given, ("handed", side, "x", (side, 0, "object")))

    def test_the_side_that_gives(self):
        for side, other in OTHER.items():
            # The one that asks.
            events = START + (("turn", side),)
            for operation in operations_with((side, 2, "object")):
                self.stands(*events, ask(side, operation))
            for operation in operations_with((other, 2, "object")):
                self.fails(*events, ask(side, operation))
            # The one that replies.
            events += (ask(side),)
            self.stands(*events, ("reply", True, (other, 2, "function")))
            self.stands(*events, ("reply", False, (other, 2, "function")))
            self.fails(*events, ("reply", True, (side, 2, "function")))
            # And the other one again.
            events += (ask(other),)
            self.stands(*events, ("reply", True, (side, 2, "function")))
            self.fails(*events, ("reply", False, (other, 2, "function")))

    def test_the_values_are_looked_at_in_their_order(self):
        for side in OTHER:
            first, second, third = [(side, n, "object") for n in (2, 3, 4)]
            events = START + (("turn", side),)
            good = (
                ("put", "x", first, second), ("put", "x", first, first), ("define", "x", ("ask", first, second, False)),
                ("call", first, (second, third)), ("call", NONE, (first, second, first, third)),
                ("call", first, (first, NONE, second)),
            )
            wrong = (
                ("put", "x", second, first), ("define", "x", ("ask", second, first, False)), ("call", second, (first,)),
                ("call", NONE, (second, first)), ("call", first, (third, second)), ("get", "x", second),
                ("call", first, ((side, 2, "function"),)), ("put", "x", first, (side, 2, "function")),
            )
            self.stand_each(events, [ask(side, operation) for operation in good])
            self.fail_each(events, [ask(side, operation) for operation in wrong])

    def test_what_crossed_counts_for_later_events(self):
        for side, other in OTHER.items():
            events = START + (("turn", side), ask(side, ("call", NONE, ((side, 2, "object"), (side, 3, "function")))))
            self.stand_each(events, [ask(other, n=n) for n in range(4)])
            self.fail_each(events, [ask(other, n=4)])
            self.stands(*events, ("reply", True, (side, 3, "function")))
            self.fails(*events, ("reply", True, (side, 3, "object")))
            events += (("reply", True, (other, 2, "object")),)
            self.stand_each(events, [ask(side, n=n) for n in range(3)])
            self.fail_each(events, [ask(side, n=3)])

    def test_what_was_denied_has_crossed(self):
        for side, other in OTHER.items():
            events = START + (("turn", side), ask(side, ("call", NONE, ((side, 2, "object"),))), DENIED, END)
            self.stands(*events, ("handed", other, "x", (side, 2, "object")))


class DrawnTest(TraceCase):
    """The traces of drawn worlds, and these with changes."""

    def traces(self, many):
        for number in range(many):
            policies, deeds = drawn(number, revoking=0.03)
            world = World(*policies)
            for deed in deeds:
                if deed[0] == "run":
                    world.begin(deed[1], deed[2])
                    world.go(10 ** 9)
                elif deed[0] == "hand":
                    world.hand(deed[1], deed[2])
                else:
                    world.revoke()
            yield number, world.trace()

    def test_those_of_worlds(self):
        for _, trace in self.traces(60):
            self.stands(*trace)

    def test_with_changes(self):
        found = {"good": 0, "wrong": 0}
        for number, trace in self.traces(60):
            drawing = random.Random(number)
            for _ in range(25):
                told = changed_trace(drawing, trace)
                place = wrong_place(told)
                self.assertEqual(place, first_wrong(told), (number, told))
                found["good" if place is None else "wrong"] += 1
        self.assertGreater(min(found.values()), 200, found)

    def test_the_index_depends_on_what_is_ahead_of_it_alone(self):
        for number, trace in self.traces(30):
            drawing = random.Random(number)
            told = changed_trace(drawing, trace)
            place = wrong_place(told)
            if place is not None:
                self.assertIsNone(wrong_place(told[:place]))
                self.assertEqual(wrong_place(told[:place + 1]), place)
                self.assertEqual(wrong_place(told[:place + 1] + ("junk", None)), place)

    def test_junk(self):
        # Whatever there is made of tuples, strings, integers, booleans and None: BadTrace or nothing.
        for number, trace in self.traces(20):
            drawing = random.Random(number)
            for _ in range(40):
                at = drawing.randrange(len(trace))
                path = drawing.choice(list(paths(trace[at])) + [()])
                told = trace[:at] + (with_part(trace[at], path, drawing.choice(JUNK)),) + trace[at + 1:]
                place = wrong_place(told)
                self.assertTrue(place is None or at <= place < len(told))


def changed_trace(drawing, trace):
    """The trace with one change: an event left out, put twice, put elsewhere or changed."""
    at, to = drawing.randrange(len(trace)), drawing.randrange(len(trace))
    event, how = trace[at], drawing.randrange(6)
    if how == 0:
        return trace[:at] + trace[at + 1:]
    if how == 1:
        return trace[:at] + (event,) + trace[at:]
    if how == 2:
        rest = trace[:at] + trace[at + 1:]
        return rest[:to] + (event,) + rest[to:]
    if how == 3:
        return trace[:at] + (drawing.choice((REVOKE, END, DENIED, GIVEN, LEFT, RIGHT)),) + trace[at:]
    leaves = [path for path in paths(event) if not isinstance(part_of(event, path), tuple) and path != (0,)]
    if leaves == []:
        return trace[:at]
    path = drawing.choice(leaves)
    leaf = part_of(event, path)
    if leaf in OTHER:
        new = OTHER[leaf]
    elif leaf in ("object", "function"):
        new = "function" if leaf == "object" else "object"
    elif isinstance(leaf, bool):
        new = not leaf
    elif isinstance(leaf, int):
        new = drawing.choice((0, leaf + 1, max(leaf - 1, 0)))
    else:
        new = leaf
    return trace[:at] + (with_part(event, path, new),) + trace[at + 1:]


def part_of(thing, path):
    for at in path:
        thing = thing[at]
    return thing


if __name__ == "__main__":
    unittest.main()
