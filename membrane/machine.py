"""A machine that runs programs in steps, without nested calls of its own functions."""

from membrane.nodes import finish, parts_of
from membrane.objects import perform
from membrane.scopes import let_variable
from membrane.values import NONE, REVOKER

MOST_DEPTH = 20
LONGEST_OUT = 10000

# A frame: what is given below it is none instead (an outcome next with use False).
NOT_USED = ("not used",)


class Machine:
    """Runs code; what it is doing is a list of frames, tuples, and a step does some work at the last one.

    A class below has the methods that tell what its objects are and what lies outside of them: is_own(value),
    keep(thing), write(text), may_begin(), request(value, operation), answer(frame, ok, value), revoke() and
    end_turn(ok, value). Its __init__ sets up the machine.
    """

    def set_up(self, heap):
        """The machine does nothing yet."""
        self.heap = heap
        self.depth = 0
        self.doing = []

    def begin_turn(self, block, env):
        """Begins a turn that runs the block in the scope env."""
        self.doing = [("turn",)]
        self.run_block(block, env)

    def step(self):
        """Does a small part of the work."""
        frame = self.doing.pop()
        action = FRAMES[frame[0]]
        action(self, frame)

    def run_block(self, block, env):
        """Runs a block, from the next step on."""
        self.doing.append(("block", block, 0, env))

    def begin(self, node, env):
        """Runs a statement or an expression, from the next step on."""
        self.wait(node, env, parts_of(node), ())

    def wait(self, node, env, parts, values):
        """Finishes the node when its other parts have values, too."""
        self.doing.append(("node", node, env, parts, values))

    def give(self, v):
        """Gives a value to what waits for one."""
        self.doing.append(("given", v))

    def throw(self, v):
        """Raises a value."""
        self.doing.append(("raised", v))

    def refuse(self, words):
        """Raises the text of what is refused."""
        self.throw(("text", words))

    def end_operation(self, ok, v):
        """Gives or raises the value with which an operation has ended elsewhere."""
        if ok:
            self.give(v)
        else:
            self.throw(v)

    def settle(self, outcome):
        """Ends an operation by its outcome, which is no next."""
        if outcome[0] == "value":
            self.give(outcome[1])
        elif outcome[0] == "raise":
            self.refuse(outcome[1])
        else:
            self.enter(outcome[1], outcome[2], outcome[3])

    def operate(self, value, operation):
        """Does an operation on a value; its end is given or raised."""
        # A loop, as a chain of parents may be long.
        while self.is_own(value):
            outcome = perform(self.heap, value[1], operation)
            if outcome[0] != "next":
                self.settle(outcome)
                return
            _, value, operation, use = outcome
            if not use and self.doing[-1] != NOT_USED:
                self.doing.append(NOT_USED)
        if value[0] in ("ref", "far"):
            self.request(value, operation)
        else:
            self.operate_on_no_object(value, operation)

    def operate_on_no_object(self, value, operation):
        """Does an operation on the revoker or on another value that is no object."""
        if operation[0] != "call":
            self.refuse("not an object")
        elif value != REVOKER:
            self.refuse("not a function")
        else:
            self.revoke()
            self.give(NONE)

    def enter(self, k, receiver, args):
        """Begins a call of the func k."""
        _, parameters, body, around, _, _ = self.heap[k]
        if self.depth >= MOST_DEPTH:
            self.refuse("too deep")
            return
        if len(args) != len(parameters):
            self.refuse("wrong number")
            return
        variables = tuple(zip(parameters, args))
        if "me" not in parameters:
            variables = variables + (("me", receiver),)
        env = self.keep(("scope", variables, around))
        self.depth += 1
        self.doing.append(("call",))
        self.run_block(body, env)


# The work at each kind of frame, which is not among the frames any more then.


def step_block(machine, frame):
    _, block, at, env = frame
    if at < len(block) and machine.may_begin():
        machine.doing.append(("block", block, at + 1, env))
        machine.begin(block[at], env)


def step_node(machine, frame):
    _, node, env, parts, values = frame
    if len(parts) == 0:
        finish(machine, node, env, values)
    else:
        machine.wait(node, env, parts[1:], values)
        machine.begin(parts[0], env)


def step_operate(machine, frame):
    machine.operate(frame[1], frame[2])


def step_given(machine, frame):
    # A frame that throws the value away is gone with it.
    below = machine.doing.pop()
    if below[0] == "node":
        _, node, env, parts, values = below
        machine.wait(node, env, parts, values + (frame[1],))
    elif below == NOT_USED:
        machine.give(NONE)
    elif below[0] == "answer":
        machine.answer(below, True, frame[1])


def step_raised(machine, frame):
    v = frame[1]
    below = machine.doing.pop()
    if below[0] == "tried":
        _, x, handler, env = below
        let_variable(machine.heap, env, x, v)
        machine.run_block(handler, env)
    elif below[0] == "answer":
        machine.answer(below, False, v)
    elif below[0] == "turn":
        machine.end_turn(False, v)
    else:
        if below[0] == "call":
            machine.depth -= 1
        machine.throw(v)


def step_returned(machine, frame):
    below = machine.doing.pop()
    if below[0] == "call":
        machine.depth -= 1
        machine.give(frame[1])
    elif below[0] == "turn":
        machine.end_turn(True, frame[1])
    else:
        machine.doing.append(frame)


def step_tried(machine, frame):
    # The block is done, and nothing was raised.
    pass


def step_call(machine, frame):
    machine.depth -= 1
    machine.give(NONE)


def step_turn(machine, frame):
    machine.end_turn(True, NONE)


FRAMES = {
    "block": step_block,
    "node": step_node,
    "operate": step_operate,
    "given": step_given,
    "raised": step_raised,
    "returned": step_returned,
    "tried": step_tried,
    "call": step_call,
    "turn": step_turn,
}
