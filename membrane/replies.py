"""What is said of a request before its operation is done (w4, q2)."""

from membrane.machine import MOST_DEPTH
from membrane.objects import members_of
from membrane.policies import asked, shown_names


def reply_at_once(policy, n, thing, operation, depth):
    """("denied",) or ("answer", ok, value), or ("go",) if the owner is to do the operation.

    thing is the owner's object, which crossed as the n-th one; depth is the depth of the side that asks.
    """
    if operation[0] == "names":
        names = shown_names(policy, n, [x for x, _ in members_of(thing)])
        return ("answer", True, ("text", " ".join(names)))
    reply = asked(policy, n, operation)
    if reply[0] == "go" and depth >= MOST_DEPTH:
        return ("answer", False, ("text", "too deep"))
    return reply
