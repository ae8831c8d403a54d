"""Replay: one side of a world runs again, by its deeds and the trace (t2 to t4)."""

from membrane.policies import check_policy
from membrane.sides import HOME, NO_EVENT, WAITING, Side
from membrane.traces import check_trace

# What stands for a deed where there is none.
NO_DEED = ("none",)


class Replay:
    """A replay of a side, by its policy, the host's deeds with it, and the trace of the world."""

    def __init__(self, side, policy, deeds, trace):
        check_policy(policy)
        check_trace(trace)
        self.player = Side(side, policy)
        self.deeds = deeds
        self.events = trace
        self.used = 0
        self.passed = 0
        self.differing = False

    def go(self, many):
        """Goes on until a step more than that many could be made, or none and no event is left, or it differs.

        Returns how many steps were made.
        """
        made = 0
        while not self.differing:
            if self.player.can_step():
                if made == many:
                    return made
                self.player.make_step()
                made += 1
                self.compare()
            elif self.passed < len(self.events):
                self.take(self.events[self.passed])
            else:
                return made
        return made

    def result(self):
        """("differs", k), ("running",) or ("same",)."""
        if self.differing:
            return ("differs", self.passed)
        if self.player.can_step():
            return ("running",)
        return ("same",)

    def held(self):
        """The held form of the side."""
        return self.player.held()

    def place(self):
        """The number of events that were gone through."""
        return self.passed

    def take(self, event):
        """Takes the next event, while the side can make no step."""
        if event[0] in ("turn", "handed") and event[1] == self.player.name:
            self.do_deed(event)
        else:
            self.passed += 1
            self.player.be_told(event)
            self.compare()

    def do_deed(self, event):
        """Does the next deed, which must be the one that the event tells."""
        deed = self.deeds[self.used] if self.used < len(self.deeds) else NO_DEED
        if event[0] == "turn":
            fitting = deed[0] == "run"
        else:
            fitting = deed == ("give", event[2]) and self.player.giving(event[2]) == event
        if not fitting:
            self.differing = True
            return
        self.used += 1
        self.passed += 1
        if event[0] == "turn":
            self.player.begin_turn(deed[1], HOME)

    def compare(self):
        """Passes the event that the side has just said, if any, or differs if it is not the next one."""
        event = self.player.take_said()
        if event != NO_EVENT:
            if self.passed == len(self.events) or self.events[self.passed] != event:
                self.differing = True
                return
            self.passed += 1
        if self.player.revoked and self.player.doing[-1:] == [WAITING]:
            # In the world the side waits until the other one is done, but without a step of its own.
            self.player.lose_request()
