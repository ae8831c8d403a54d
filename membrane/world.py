"""The world: two sides with a membrane between them, led by the host, and the trace of what crosses it."""

from membrane.errors import BadState
from membrane.policies import check_policy
from membrane.programs import check_block
from membrane.sides import HOME, NO_EVENT, OTHER, Side
from membrane.values import NONE

# The side that runs while the world is at rest.
NOBODY = ""


class World:
    """A world; left and right are the policies of both sides."""

    def __init__(self, left, right):
        check_policy(left)
        check_policy(right)
        self.sides = {"left": Side("left", left), "right": Side("right", right)}
        self.events = []
        self.running = NOBODY
        self.last_end = (True, NONE)

    def begin(self, side, block):
        """Begins a turn in which the side runs the block."""
        self.need_rest()
        check_block(block)
        self.events.append(("turn", side))
        self.sides[side].begin_turn(block, HOME)
        self.running = side

    def go(self, many):
        """Makes that many steps, or fewer if the world comes to rest; how many were made."""
        made = 0
        while made < many and self.running != NOBODY:
            self.sides[self.running].make_step()
            made += 1
            self.follow()
        return made

    def state(self):
        """The name of the side that runs, or an empty text at rest."""
        return self.running

    def ended(self):
        """How the last turn has ended, a pair (ok, value)."""
        return self.last_end

    def hand(self, side, x):
        """Hands over the variable x of the side's module; True if it was done."""
        self.need_rest()
        event = self.sides[side].giving(x)
        if event == NO_EVENT:
            return False
        self.events.append(event)
        self.sides[OTHER[side]].be_told(event)
        return True

    def revoke(self):
        """Revokes the membrane."""
        self.need_rest()
        if not self.sides["left"].revoked:
            self.events.append(("revoke",))
            self.sides["left"].be_told(("revoke",))
            self.sides["right"].be_told(("revoke",))

    def trace(self):
        """The events, a tuple."""
        return tuple(self.events)

    def out(self, side):
        """What the side has printed."""
        return self.sides[side].printed

    def steps(self, side):
        """How many steps the side has made."""
        return self.sides[side].step_count

    def held(self, side):
        """The held form of the side."""
        return self.sides[side].held()

    def need_rest(self):
        """Raises BadState if the world is not at rest."""
        if self.running != NOBODY:
            raise BadState()

    def follow(self):
        """What needs no step: goes on until the side that runs can make one or the world is at rest."""
        while self.running != NOBODY:
            side = self.sides[self.running]
            event = side.take_said()
            if event != NO_EVENT:
                self.events.append(event)
                self.pass_on(event)
            elif side.can_step():
                return
            else:
                # Behind revoking, a side that has done what it was asked for tells nobody.
                self.running = OTHER[self.running]
                self.sides[self.running].lose_request()

    def pass_on(self, event):
        """Tells the other side what the side that runs has said."""
        other = OTHER[self.running]
        if event == ("end",):
            self.last_end = self.sides[self.running].last_end
            self.running = NOBODY
            return
        self.sides[other].be_told(event)
        if event != ("revoke",):
            self.running = other
