"""A side of the world: the code and the objects of one compartment, what it says to the other side and is told.

What a side says and is told are the events of a trace (w3). A world passes them on from side to side; a replay
compares what its side says with a trace, and tells it from there what the other side said.
"""

from membrane.machine import LONGEST_OUT, Machine
from membrane.objects import values_in, with_values
from membrane.replies import reply_at_once
from membrane.scopes import MODULE, has_variable, let_variable, variable
from membrane.values import kind

OTHER = {"left": "right", "right": "left"}

# The number of the scope of the module.
HOME = 0

# What stands for an event where there is none.
NO_EVENT = ()

# Frame of the machine: the other side does an operation for this one.
WAITING = ("waiting",)


class Side(Machine):
    """One of the two sides."""

    def __init__(self, name, policy):
        self.set_up([MODULE])
        self.name = name
        self.policy = policy
        self.gone = []
        # The place of each object in gone.
        self.numbers = {}
        self.printed = ""
        self.revoked = False
        self.step_count = 0
        self.last_end = ()
        # What was said and not taken yet; a step says at most one thing, and so does the taking of an event.
        self.said = NO_EVENT

    def can_step(self):
        """True if the side has something to do that does not wait for the other one."""
        return len(self.doing) > 0 and self.doing[-1] != WAITING

    def make_step(self):
        """Makes a step, which is counted."""
        self.step_count += 1
        self.step()

    def take_said(self):
        """The event that the side has said since the last time, or NO_EVENT."""
        event = self.said
        self.said = NO_EVENT
        return event

    def held(self):
        """The held form, which nothing changes later."""
        doing = (self.depth,) + tuple(self.doing)
        return (tuple(self.heap), tuple(self.gone), self.printed, self.revoked, doing)

    # What the machine asks for.

    def is_own(self, value):
        """True if the value is an object of this side."""
        return value[0] == "ref"

    def keep(self, thing):
        """Puts a thing at the end of the heap; its number."""
        self.heap.append(thing)
        return len(self.heap) - 1

    def write(self, text):
        """Adds a text to what was printed; False, and nothing is added, if that would be too long."""
        if len(self.printed) + len(text) > LONGEST_OUT:
            return False
        self.printed = self.printed + text
        return True

    def may_begin(self):
        """A statement or a round may always begin."""
        return True

    def end_turn(self, ok, value):
        """The turn has ended."""
        self.last_end = (ok, value)
        self.said = ("end",)

    def request(self, value, operation):
        """Asks the other side for an operation on an object of its own."""
        if self.revoked:
            self.refuse("revoked")
            return
        values = tuple([self.neutral(v) for v in values_in(operation)])
        self.doing.append(WAITING)
        self.said = ("request", self.name, self.depth, value[1], with_values(operation, values))

    def answer(self, frame, ok, value):
        """An operation that was done for the other side has ended; its frame tells the depth ahead of it."""
        self.depth = frame[1]
        if not self.revoked:
            self.said = ("reply", ok, self.neutral(value))

    def revoke(self):
        """The code of this side revokes."""
        if not self.revoked:
            self.revoked = True
            self.said = ("revoke",)

    # Crossing.

    def neutral(self, value):
        """The neutral value of a value that crosses to the other side."""
        if value[0] == "ref":
            return (self.name, self.number_of(value[1]), kind(self.heap, value))
        if value[0] == "far":
            return (OTHER[self.name],) + value[1:]
        return value

    def number_of(self, k):
        """The place of the object k in gone, where it is put if it is not there."""
        if k not in self.numbers:
            self.numbers[k] = len(self.gone)
            self.gone.append(k)
        return self.numbers[k]

    def own_form(self, value):
        """What a neutral value is on this side."""
        if value[0] == self.name:
            return ("ref", self.gone[value[1]])
        if value[0] == OTHER[self.name]:
            return ("far",) + value[1:]
        return value

    # What the host and the other side do.

    def giving(self, x):
        """The event that the variable x of the module is handed over; NO_EVENT if that cannot be done."""
        module = self.heap[HOME]
        if self.revoked or not has_variable(module, x):
            return NO_EVENT
        return ("handed", self.name, x, self.neutral(variable(module, x)))

    def be_told(self, event):
        """Takes an event of the other side or of the host."""
        word = event[0]
        if word == "handed":
            let_variable(self.heap, HOME, event[2], self.own_form(event[3]))
        elif word == "request":
            self.serve(event[2], event[3], event[4])
        elif word == "denied":
            self.doing.pop()
            self.refuse("denied")
        elif word == "reply":
            self.doing.pop()
            self.end_operation(event[1], self.own_form(event[2]))
        elif word == "revoke":
            self.revoked = True

    def serve(self, depth, n, operation):
        """Takes a request on the object that crossed as the n-th one; depth is that of the side that asks."""
        k = self.gone[n]
        reply = reply_at_once(self.policy, n, self.heap[k], operation, depth)
        if reply[0] == "denied":
            self.said = reply
        elif reply[0] == "answer":
            self.said = ("reply",) + reply[1:]
        else:
            values = tuple([self.own_form(v) for v in values_in(operation)])
            self.doing.append(("answer", self.depth))
            self.doing.append(("operate", ("ref", k), with_values(operation, values)))
            self.depth = depth + 1

    def lose_request(self):
        """Behind revoking, the request for which the side waits ends."""
        self.doing.pop()
        self.refuse("revoked")
