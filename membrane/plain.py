"""The plain world: both sides in one heap, in which the owners' policies refuse what they refuse (q1 to q5)."""

from membrane.machine import LONGEST_OUT, Machine
from membrane.objects import values_in
from membrane.replies import reply_at_once
from membrane.scopes import MODULE, has_variable, let_variable, variable
from membrane.values import text_of

SIDES = ("left", "right")


def place_of(side):
    """The place of a side in pairs and lists."""
    return 0 if side == "left" else 1


class Plain(Machine):
    """A plain world; left and right are the policies of both sides."""

    def __init__(self, left, right):
        self.set_up([MODULE, MODULE])
        self.policies = (left, right)
        self.owners = list(SIDES)
        self.modules = (0, 1)
        self.gone = ([], [])
        self.outs = ["", ""]
        self.revoked = False
        # The number of each object in the list of its owner in gone.
        self.numbers = {}
        # The side as which code runs.
        self.side = "left"
        self.fuel = 0
        # How the last run has ended.
        self.told = ("long",)

    def run(self, side, block, fuel):
        """A turn of the side: ("over", ok, v), or ("long",) if it would take more than the fuel."""
        self.side = side
        self.fuel = fuel
        self.told = ("long",)
        self.begin_turn(block, self.modules[place_of(side)])
        while len(self.doing) > 0:
            self.step()
        self.depth = 0
        return self.told

    def hand(self, side, x):
        """The variable x of the side's module becomes one of the other's module; False if nothing is done."""
        giver = place_of(side)
        module = self.heap[self.modules[giver]]
        if self.revoked or not has_variable(module, x):
            return False
        value = variable(module, x)
        self.hand_over(side, value)
        let_variable(self.heap, self.modules[1 - giver], x, value)
        return True

    def revoke(self):
        """From now on no side does operations on the other's objects."""
        self.revoked = True

    def text(self, v):
        """The text of a value."""
        return text_of(self.heap, v)

    def hand_over(self, side, value):
        """Hands over a value from the side: an object of its own gets a number, once."""
        if value[0] != "ref" or self.owners[value[1]] != side or value[1] in self.numbers:
            return
        gone = self.gone[place_of(side)]
        self.numbers[value[1]] = len(gone)
        gone.append(value[1])

    def is_own(self, value):
        """True if the value is an object of the side that runs."""
        return value[0] == "ref" and self.owners[value[1]] == self.side

    def keep(self, thing):
        """Puts a thing of the side that runs at the end of the heap; its number."""
        self.heap.append(thing)
        self.owners.append(self.side)
        return len(self.heap) - 1

    def write(self, text):
        """Adds a text to out of the side that runs; False, and nothing is added, if out would be too long."""
        at = place_of(self.side)
        if len(self.outs[at]) + len(text) > LONGEST_OUT:
            return False
        self.outs[at] = self.outs[at] + text
        return True

    def may_begin(self):
        """Takes fuel for a statement or a round; False, and the run ends, if there is none."""
        if self.fuel == 0:
            self.doing = []
            return False
        self.fuel -= 1
        return True

    def end_turn(self, ok, value):
        """The turn has ended."""
        self.told = ("over", ok, value)

    def request(self, value, operation):
        """Does an operation of the side that runs on an object of the other side."""
        if self.revoked:
            self.refuse("revoked")
            return
        for v in values_in(operation):
            self.hand_over(self.side, v)
        k = value[1]
        policy = self.policies[place_of(self.owners[k])]
        reply = reply_at_once(policy, self.numbers[k], self.heap[k], operation, self.depth)
        if reply[0] == "denied":
            self.refuse("denied")
        elif reply[0] == "answer":
            self.end_operation(reply[1], reply[2])
        else:
            self.doing.append(("answer", self.side))
            self.side = self.owners[k]
            self.depth += 1
            # The owner begins with the next step, so that sides that ask each other are no nested calls.
            self.doing.append(("operate", value, operation))

    def answer(self, frame, ok, value):
        """An operation that was done for the other side, which is told in the frame, has ended."""
        owner = self.side
        self.side = frame[1]
        self.depth -= 1
        if self.revoked:
            self.refuse("revoked")
            return
        self.hand_over(owner, value)
        self.end_operation(ok, value)
