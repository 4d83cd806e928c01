"""Programs that change: flows go on with the version with which they began, or move to another one."""

from flowreprise.compiling import signatures
from flowreprise.engines import is_beginning
from flowreprise.meaning import run
from flowreprise.states import State
from flowreprise.steps import MOST_STATEMENTS, next_event, settle_flows


def first_difference(program, other, flow):
    """Returns the first difference of the runs of a flow in two programs that have its function, or None."""
    for index in range(len(flow.answers) + 1):
        answers = flow.answers[:index]
        outcome = _outcome_with(program, flow, answers)
        if _outcome_with(other, flow, answers) != outcome:
            return index
        if outcome[0] != "waits":
            return None
    return None


def _outcome_with(program, flow, answers):
    """Returns the outcome of a flow with other answers than its own."""
    outcome, _ = run(program, flow.function, flow.given, answers, MOST_STATEMENTS)
    return outcome


def may_move(program, other, flow):
    """Returns whether a flow may move from a program to another one."""
    if flow.end is not None:
        return False
    sorts, fresh = signatures(program), signatures(other)
    if flow.function not in fresh or fresh[flow.function] != sorts[flow.function]:
        return False
    return first_difference(program, other, flow) is None


class Fleet:
    """One version of a program, and no flows."""

    def __init__(self, program):
        self.programs = {1: program}
        self.versions = {}
        self.state = State()
        self.events = []

    def deploy(self, program):
        """Makes a program the newest version, and returns its number."""
        version = len(self.programs) + 1
        self.programs[version] = program
        return version

    def begin(self, name, values):
        """Begins a flow and returns its number, or None if the newest version has no such function for such values."""
        if not is_beginning(self.programs[len(self.programs)], name, values):
            return None
        number = len(self.state.flows) + 1
        self.keep(("begin", number, name, list(values), None))
        return number

    def keep(self, event):
        """Takes an event in that may come."""
        self.events.append(event)
        self.state.apply(event)
        if event[0] == "begin":
            # A child has the version that its parent has when it begins.
            parent = event[4]
            self.versions[event[1]] = len(self.programs) if parent is None else self.versions[parent]

    def move(self, number, version):
        """Lets a flow move to a version, if it may, and returns whether it does."""
        if version not in self.programs or not self._may_move(number, version):
            return False
        self.versions[number] = version
        return True

    def _may_move(self, number, version):
        if number not in self.state.flows:
            return False
        return may_move(self.programs[self.versions[number]], self.programs[version], self.state.flows[number])

    def movable(self):
        """Returns the list of the pairs of a flow and the newest version, newer than its own, to which it may move."""
        rows = []
        for number in sorted(self.state.flows):
            first, last = self.versions[number] + 1, len(self.programs)
            newer = [version for version in range(first, last + 1) if self._may_move(number, version)]
            if newer:
                rows.append((number, newer[-1]))
        return rows

    def settle(self):
        """Goes on with all flows as far as there are next events."""
        settle_flows(self.state, lambda number: self._next_event(number), lambda event: self.keep(event))

    def _next_event(self, number):
        return next_event(self.programs[self.versions[number]], self.state, number)
