"""What is known of all flows follows from the events."""


class Flow:
    """A flow, and what is known of the request for which it waits."""

    def __init__(self, function, given, parent):
        self.function = function
        self.given = list(given)
        self.parent = parent
        self.answers = []
        self.signals = []
        self.is_off = False
        self.end = None
        self.clear_request()

    def clear_request(self):
        """Ends what was told of a request."""
        self.due = None
        self.attempt = 0
        self.since = None
        self.lost = None
        self.child = None
        self.is_sent = False

    def apply(self, event, moment):
        """Takes an event in that tells something of the flow, at a moment."""
        word = event[0]
        if word == "due":
            self.due = event[2]
        elif word == "attempt":
            self.attempt = event[2]
            self.since = moment
            self.lost = None
            self.is_sent = False
        elif word == "sent":
            self.is_sent = True
        elif word == "lost":
            self.lost = event[2]
            self.since = moment
        elif word == "signal":
            self.signals.append((event[2], event[3]))
        elif word == "off":
            self.is_off = True
        elif word == "answer":
            self.take(event[2], event[3])
        else:
            self.end = event[2]

    def take(self, answer, place):
        """Takes the answer to the request, for which a signal may be taken."""
        self.answers.append(answer)
        if place is not None:
            self.signals.pop(place)
        self.clear_request()


class State:
    """No flows, at the moment 0."""

    def __init__(self):
        self.moment = 0
        self.flows = {}

    def apply(self, event):
        """Takes an event in."""
        if event[0] == "tick":
            self.moment = event[1]
        elif event[0] == "begin":
            self._begin(event)
        else:
            self.flows[event[1]].apply(event, self.moment)

    def _begin(self, event):
        _, number, function, values, parent = event
        self.flows[number] = Flow(function, values, parent)
        if parent is not None:
            self.flows[parent].child = number


def state_of(events):
    """Returns the state that follows from a list of events."""
    state = State()
    for event in events:
        state.apply(event)
    return state
