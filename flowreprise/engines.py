"""An engine lets flows go on, and writes each event to a journal before it counts."""

from flowreprise.failures import is_told_code
from flowreprise.operations import is_of
from flowreprise.requests import kind_wanted
from flowreprise.states import state_of
from flowreprise.steps import MOST_FLOWS, next_event, outcome_of, settle_flows, task_of


class Engine:
    """An engine that recovers a journal."""

    def __init__(self, program, journal):
        self.program = program
        self.journal = journal
        self.state = state_of(journal.recover())

    def _write(self, event):
        """Writes an event, and then takes it in."""
        self.journal.append(event)
        self.state.apply(event)

    def begin(self, name, values):
        """Returns the number of a new flow, or None."""
        if len(self.state.flows) >= MOST_FLOWS or not is_beginning(self.program, name, values):
            return None
        number = len(self.state.flows) + 1
        self._write(("begin", number, name, list(values), None))
        return number

    def tick(self, length):
        """Lets time pass by a length."""
        self._write(("tick", self.state.moment + length))

    def _is_going_on(self, number):
        return number in self.state.flows and self.state.flows[number].end is None

    def signal(self, number, name, value):
        """Lets a signal come to a flow, and returns whether it counts."""
        if not self._is_going_on(number):
            return False
        self._write(("signal", number, name, value))
        return True

    def call_off(self, number):
        """Calls a flow off, with the flows that it has begun, and returns whether it counts."""
        if not self._is_going_on(number):
            return False
        # Children have greater numbers than their parents.
        called = {}
        for other in sorted(self.state.flows):
            is_child = self.state.flows[other].parent in called
            if other == number or (is_child and self._is_going_on(other)):
                called[other] = True
        for other in called:
            self._write(("off", other))
        return True

    def bring(self, task, answer):
        """Brings the answer to a task, and returns whether it counts."""
        number, index, attempt, _, _ = task
        if not self._is_going_on(number):
            return False
        flow = self.state.flows[number]
        # A flow with an attempt waits for an activity.
        if flow.attempt == 0 or flow.attempt != attempt or flow.lost is not None or len(flow.answers) != index:
            return False
        word, told = answer
        if word == "ok" and is_of(told, kind_wanted(outcome_of(self.program, flow)[1])):
            self._write(("answer", number, answer, None))
            return True
        if word == "failed" and is_told_code(told):
            self._write(("lost", number, told))
            return True
        return False

    def turn(self):
        """Makes a turn and returns the list of the tasks that go out."""
        settle_flows(
            self.state,
            lambda number: next_event(self.program, self.state, number),
            lambda event: self._write(event))
        self.journal.sync()
        numbers = [number for number in sorted(self.state.flows) if self._has_task(number)]
        tasks = [task_of(self.program, self.state, number) for number in numbers]
        for task in tasks:
            self._write(("sent", task[0]))
        return tasks

    def _has_task(self, number):
        """Returns whether the task of a flow goes out: each does once in the life of an engine, as it is sent then."""
        flow = self.state.flows[number]
        if flow.end is not None or flow.is_off:
            return False
        return flow.attempt > 0 and flow.lost is None and not flow.is_sent


def is_beginning(program, name, values):
    """Returns whether a flow may begin with a function of a program and values."""
    for function in program:
        if function[1] == name:
            kinds = [kind for _, kind in function[2]]
            return len(kinds) == len(values) and all([is_of(value, kind) for value, kind in zip(values, kinds)])
    return False
