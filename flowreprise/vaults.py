"""A vault keeps events in two areas, so that what lies long behind may be shortened to a state."""

from flowreprise.journals import Journal
from flowreprise.states import Flow, State

HEAD = "head"
STATE = "state"


def saved(state):
    """Returns a state as data."""
    return (state.moment, [(number, _flow_told(state.flows[number])) for number in sorted(state.flows)])


def _flow_told(flow):
    return (
        flow.function, list(flow.given), flow.parent, list(flow.answers), list(flow.signals), flow.is_off, flow.end,
        flow.due, flow.attempt, flow.since, flow.lost, flow.child, flow.is_sent)


def restored(data):
    """Returns the state that data tell."""
    state = State()
    state.moment, rows = data
    for number, told in rows:
        state.flows[number] = _flow_of(told)
    return state


def _flow_of(told):
    function, given, parent, answers, signals, is_off, end, due, attempt, since, lost, child, is_sent = told
    flow = Flow(function, given, parent)
    flow.answers = list(answers)
    flow.signals = list(signals)
    flow.is_off = is_off
    flow.end = end
    flow.due = due
    flow.attempt = attempt
    flow.since = since
    flow.lost = lost
    flow.child = child
    flow.is_sent = is_sent
    return flow


class Vault:
    """A vault at its beginning."""

    def __init__(self):
        self.areas = [Journal(), Journal()]
        self.use = 0
        self.number = 1
        self.is_shortening = False
        _begin_area(self.areas[0], 1, State())
        self.areas[0].sync()

    def _other(self):
        """Returns the area that is not in use."""
        return self.areas[1 - self.use]

    def append(self, event):
        """Writes an event."""
        self.areas[self.use].append(event)
        if self.is_shortening:
            self._other().append(event)

    def sync(self):
        """Makes all events safe."""
        self.areas[self.use].sync()
        if self.is_shortening:
            self._other().sync()

    def begin_shortening(self, state):
        """Begins to write to the other area, too, the present state first."""
        self.is_shortening = True
        _begin_area(self._other(), self.number + 1, state)

    def end_shortening(self):
        """Makes the other area safe and takes it in use."""
        self._other().sync()
        self.use = 1 - self.use
        self.number += 1
        self.is_shortening = False

    def fall(self, first, second):
        """Lets the power fail, when so many characters that are not safe are kept in the two areas."""
        self.areas[0].fall(first)
        self.areas[1].fall(second)

    def recover(self):
        """Recovers and returns the state."""
        found = [area.recover() for area in self.areas]
        numbers = [_number_of(rows) for rows in found]
        self.use = numbers.index(max(numbers))
        self.number = numbers[self.use]
        self.is_shortening = False
        rows = found[self.use]
        state = restored(rows[1][1])
        for event in rows[2:]:
            state.apply(event)
        return state


def _begin_area(area, number, state):
    """Clears an area and writes what comes before its events."""
    area.text = ""
    area.safe = 0
    area.append((HEAD, number))
    area.append((STATE, saved(state)))


def _number_of(rows):
    """Returns the number of an area for its records, 0 if they do not begin with a head and a state."""
    if len(rows) < 2 or rows[0][0] != HEAD or rows[1][0] != STATE:
        return 0
    return rows[0][1]
