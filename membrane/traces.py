"""Traces, and what is none (t1)."""

from membrane.errors import BadTrace
from membrane.machine import MOST_DEPTH
from membrane.objects import values_in
from membrane.programs import MOST_ARGUMENTS, word_of
from membrane.sides import OTHER
from membrane.values import is_name, is_value, is_whole_number

# What stands behind the word of an event.
EVENTS = {
    "turn": ("side",),
    "end": (),
    "handed": ("side", "name", "value"),
    "request": ("side", "depth", "number", "operation"),
    "denied": (),
    "reply": ("bool", "value"),
    "revoke": (),
}

# What stands behind the word of an operation.
OPERATIONS = {
    "get": ("name", "value"),
    "put": ("name", "value", "value"),
    "has": ("name",),
    "drop": ("name",),
    "look": ("name",),
    "fix": ("name",),
    "define": ("name", "member"),
    "names": (),
    "parent": (),
    "close": (),
    "is_open": (),
    "call": ("value", "values"),
}

# What stands behind the word of a member.
MEMBERS = {
    "data": ("value", "bool"),
    "ask": ("value", "value", "bool"),
}


def check_trace(trace):
    """None for a trace; otherwise BadTrace is raised, with the index of the first event that cannot stand there."""
    course = Course()
    for at, event in enumerate(trace):
        if not fits_event(event) or not course.takes(event):
            raise BadTrace(at)


# The shapes of events.


def fits_event(thing):
    """True if the thing has the shape of an event."""
    return fits(thing, EVENTS.get(word_of(thing)))


def fits(thing, shape):
    """True if the thing has just these parts behind its word; the shape is None if there is none of that word."""
    if shape is None or len(thing) != len(shape) + 1:
        return False
    for what, part in zip(shape, thing[1:]):
        action = FITTING[what]
        if not action(part):
            return False
    return True


def fits_side(thing):
    return isinstance(thing, str) and thing in ("left", "right")


def fits_name(thing):
    return is_name(thing)


def fits_bool(thing):
    return isinstance(thing, bool)


def fits_depth(thing):
    return is_whole_number(thing) and 0 <= thing <= MOST_DEPTH


def fits_number(thing):
    return is_whole_number(thing) and thing >= 0


def fits_value(thing):
    return is_value(thing) or is_neutral_object(thing)


def fits_values(thing):
    return isinstance(thing, tuple) and len(thing) <= MOST_ARGUMENTS and all([fits_value(v) for v in thing])


def fits_member(thing):
    return fits(thing, MEMBERS.get(word_of(thing)))


def fits_operation(thing):
    return fits(thing, OPERATIONS.get(word_of(thing)))


FITTING = {
    "side": fits_side,
    "name": fits_name,
    "bool": fits_bool,
    "depth": fits_depth,
    "number": fits_number,
    "value": fits_value,
    "values": fits_values,
    "member": fits_member,
    "operation": fits_operation,
}


def is_neutral_object(thing):
    """True for (owner, n, what); whether it crossed is not looked at."""
    if not isinstance(thing, tuple) or len(thing) != 3:
        return False
    owner, n, what = thing
    return fits_side(owner) and fits_number(n) and isinstance(what, str) and what in ("object", "function")


# Where events may stand.


class Course:
    """How far a trace has come: the side that runs, how many wait, and what has crossed."""

    def __init__(self):
        self.running = ""
        self.waiting = 0
        self.revoked = False
        # Of each side, what its objects are, in the order in which they crossed.
        self.crossed = {"left": [], "right": []}

    def takes(self, event):
        """True if an event of the right shape can stand here; then the next one is asked about what stands behind."""
        action = TAKING[event[0]]
        return action(self, event)

    def crosses(self, side, values):
        """True if the side can give these values, which cross then."""
        for v in values:
            if is_neutral_object(v) and not self.crosses_object(side, v):
                return False
        return True

    def crosses_object(self, side, value):
        """As crosses, for an object."""
        owner, n, what = value
        kinds = self.crossed[owner]
        if n < len(kinds):
            return kinds[n] == what
        if n > len(kinds) or owner != side:
            return False
        kinds.append(what)
        return True


def takes_turn(course, event):
    if course.running != "":
        return False
    course.running = event[1]
    return True


def takes_end(course, event):
    if course.running == "" or (course.waiting > 0 and not course.revoked):
        return False
    course.running = ""
    course.waiting = 0
    return True


def takes_handed(course, event):
    _, side, _, value = event
    return course.running == "" and not course.revoked and course.crosses(side, (value,))


def takes_request(course, event):
    _, side, _, n, operation = event
    other = OTHER[side]
    if course.running != side or course.revoked or n >= len(course.crossed[other]):
        return False
    course.running = other
    course.waiting += 1
    return course.crosses(side, values_in(operation))


def takes_denied(course, event):
    if course.waiting == 0 or course.revoked:
        return False
    # The sides wait in turn, so the one that began last is the one that does not run.
    course.running = OTHER[course.running]
    course.waiting -= 1
    return True


def takes_reply(course, event):
    side = course.running
    return takes_denied(course, event) and course.crosses(side, (event[2],))


def takes_revoke(course, event):
    if course.revoked:
        return False
    course.revoked = True
    return True


TAKING = {
    "turn": takes_turn,
    "end": takes_end,
    "handed": takes_handed,
    "request": takes_request,
    "denied": takes_denied,
    "reply": takes_reply,
    "revoke": takes_revoke,
}
