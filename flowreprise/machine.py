"""A machine runs the code of a flow's function, one instruction after the other."""

from flowreprise.code import made, taken
from flowreprise.errors import StateError
from flowreprise.failures import CALLED_OFF, MOST_CALLS, TOO_GREAT, TOO_MANY, raised_code
from flowreprise.operations import is_of
from flowreprise.requests import may_ask

# The instructions that neither make a value of others, nor leave the frame.
PLAIN = ("push", "get", "put", "drop", "jump", "unless", "guard", "unguard")
PLAIN_ANSWERS = {"timer": "nothing", "now": "int", "random": "int"}


class Frame:
    """A call of a function.

    The values that a call or a request takes stay on its stack until that is
    over, as they are there again if it fails.
    """

    def __init__(self, name, at, slots, stack, guards):
        self.name = name
        self.at = at
        self.slots = list(slots)
        self.stack = list(stack)
        self.guards = list(guards)

    def top(self, count):
        """Returns the list of so many topmost values."""
        return self.stack[len(self.stack) - count:]

    def replace_top(self, count, value):
        """Puts a value in the place of so many topmost ones."""
        self.stack = self.stack[:len(self.stack) - count]
        self.stack.append(value)

    def told(self, hidden):
        """Returns the frame as a tuple, without so many topmost values."""
        stack = self.stack[:len(self.stack) - hidden]
        return (self.name, self.at, tuple(self.slots), tuple(stack), tuple(self.guards))

    def move(self, instruction):
        """Does a plain instruction."""
        word = instruction[0]
        if word == "push":
            self.stack.append(instruction[1])
        elif word == "get":
            self.stack.append(self.slots[instruction[1]])
        elif word == "put":
            self.slots[instruction[1]] = self.stack.pop()
        elif word == "drop":
            self.stack.pop()
        elif word == "jump":
            self.at = instruction[1]
        elif word == "unless":
            if not self.stack.pop()[1]:
                self.at = instruction[1]
        elif word == "guard":
            self.guards.append((instruction[1], instruction[2], len(self.stack)))
        else:
            self.guards.pop()

    def fall(self, code):
        """Lets a failure with a code go on at the last guard."""
        place, slot, height = self.guards.pop()
        self.at = place
        self.stack = self.stack[:height]
        self.slots[slot] = ("int", code)


class Machine:
    """A machine at the beginning of a function with a list of values."""

    def __init__(self, codes, function, values):
        self.codes = codes
        self.calls = []
        self.steps = 0
        self.asked = None
        self.end = None
        self._begin(function, values)

    def outcome(self):
        """Returns the outcome, None if there is more to do."""
        if self.asked is not None:
            return ("waits", self.asked)
        return self.end

    def run(self, most):
        """Does steps until there is an outcome, at most so many, and returns the outcome."""
        left = most
        while left > 0 and self.outcome() is None:
            self.step()
            left -= 1
        told = self.outcome()
        return ("tired",) if told is None else told

    def step(self):
        """Does one step."""
        if self.outcome() is not None:
            raise StateError("step")
        frame = self.calls[-1]
        instruction = self.codes[frame.name][4][frame.at]
        self.steps += 1
        frame.at += 1
        word = instruction[0]
        if word in PLAIN:
            frame.move(instruction)
        elif word == "call":
            self._call(frame, instruction)
        elif word == "return":
            self._return(frame)
        elif word == "ask":
            self._ask(frame, instruction)
        elif word == "fail":
            self._fail(raised_code(frame.stack[-1][1]))
        else:
            self._make(frame, instruction)

    def innermost(self):
        """Returns the frame that goes on."""
        return self.calls[-1]

    def depth(self):
        """Returns how many frames there are."""
        return len(self.calls)

    def leap(self, place, told, count):
        """Goes on at a place, with the pair of slots and a stack that so many steps of the frame make."""
        frame = self.calls[-1]
        frame.at = place
        frame.slots, frame.stack = told
        self.steps += count

    def _begin(self, function, values):
        untold = [None] * (self.codes[function][3] - len(values))
        self.calls.append(Frame(function, 0, list(values) + untold, [], []))

    def _call(self, frame, instruction):
        if len(self.calls) == MOST_CALLS:
            self._fail(TOO_MANY)
        else:
            self._begin(instruction[1], frame.top(instruction[2]))

    def _return(self, frame):
        value = frame.stack[-1]
        self.calls.pop()
        if self.calls:
            self._give(value)
        else:
            self.end = ("done", value)

    def _give(self, value):
        """Puts what a call or a request gives in the place of the values that it took."""
        frame = self.calls[-1]
        frame.replace_top(taken(self._left(frame)), value)

    def _left(self, frame):
        """Returns the instruction behind which a frame is."""
        return self.codes[frame.name][4][frame.at - 1]

    def _make(self, frame, instruction):
        count = taken(instruction)
        word, told = made(instruction, frame.top(count))
        if word == "ok":
            frame.replace_top(count, told)
        else:
            self._fail(told)

    def _ask(self, frame, instruction):
        request = _requested(instruction, frame.top(taken(instruction)))
        if may_ask(request):
            self.asked = request
        else:
            self._fail(TOO_GREAT)

    def _fail(self, code):
        """Lets a failure end calls up to the frame with a guard."""
        while self.calls and not self.calls[-1].guards:
            self.calls.pop()
        if self.calls:
            self.calls[-1].fall(code)
        else:
            self.end = ("failed", code)

    def answer(self, answer):
        """Takes the answer to the request for which the machine waits."""
        if self.asked is None:
            raise StateError("answer")
        word, told = answer
        if word == "ok" and _is_answer(self._left(self.calls[-1]), self.asked, told):
            self.asked = None
            self._give(told)
        elif word == "failed":
            self.asked = None
            self._fail(told)
        else:
            raise StateError("answer")

    def call_off(self):
        """Takes the answer that the flow is called off."""
        self.answer(("failed", CALLED_OFF))

    def frames(self):
        """Returns the list of the frames, the innermost one last."""
        rows = []
        for k, frame in enumerate(self.calls):
            is_waiting = self.asked is not None or k < len(self.calls) - 1
            rows.append(frame.told(taken(self._left(frame)) if is_waiting else 0))
        return rows

    def saved(self):
        """Returns a tuple with all that the machine is but for its code."""
        return (tuple([frame.told(0) for frame in self.calls]), self.steps, self.asked, self.end)


def resumed(codes, saved):
    """Returns a machine that goes on from what was saved."""
    frames, steps, asked, end = saved
    # A machine is made with some function; its frame gives way to those that were saved.
    machine = Machine(codes, min(codes), [])
    machine.calls = [Frame(name, at, slots, stack, guards) for name, at, slots, stack, guards in frames]
    machine.steps = steps
    machine.asked = asked
    machine.end = end
    return machine


def _requested(instruction, values):
    """Returns the request that an instruction makes with values."""
    word = instruction[1]
    if word == "act":
        return ("act", instruction[2], values[0], instruction[3])
    if word == "signal":
        return ("signal", instruction[2], instruction[3])
    if word == "flow":
        return ("flow", instruction[2], tuple(values))
    if word == "now":
        return ("now",)
    return (word, values[0][1])


def _is_answer(instruction, request, value):
    """Returns whether a value may answer a request that an instruction has made."""
    word = request[0]
    if word in PLAIN_ANSWERS:
        if not is_of(value, PLAIN_ANSWERS[word]):
            return False
        return word != "random" or 0 <= value[1] < request[1]
    return is_of(value, instruction[-1])
