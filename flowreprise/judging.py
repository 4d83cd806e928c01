"""Histories and tasks are judged: whether events may come, and whether tasks belong to attempts."""

from flowreprise.engines import is_beginning
from flowreprise.failures import is_told_code
from flowreprise.journals import read_records
from flowreprise.operations import is_of
from flowreprise.requests import kind_wanted
from flowreprise.states import State
from flowreprise.steps import next_event, outcome_of

# What may come from outside for each flow that has not ended.
ALWAYS = ("signal", "off")


def event_right(program, state, event):
    """Returns whether an event may come in a state."""
    word = event[0]
    if word == "tick":
        return event[1] >= state.moment
    # A beginning of a child is the next event of its parent.
    number = event[4] if word == "begin" else event[1]
    if number is None:
        return event[1] == len(state.flows) + 1 and is_beginning(program, event[2], event[3])
    if number not in state.flows or state.flows[number].end is not None:
        return False
    if word in ALWAYS or event == next_event(program, state, number):
        return True
    return _is_of_attempt(program, state.flows[number], event)


def _is_of_attempt(program, flow, event):
    """Returns whether an event may come while the last attempt of a flow that has not ended is not lost."""
    if flow.attempt == 0 or flow.lost is not None:
        return False
    if event[0] == "sent":
        return not flow.is_sent
    if event[0] == "lost":
        return is_told_code(event[2])
    if event[0] != "answer":
        return False
    (word, told), place = event[2], event[3]
    # A flow with an attempt waits for an activity.
    return word == "ok" and place is None and is_of(told, kind_wanted(outcome_of(program, flow)[1]))


def first_wrong(program, events):
    """Returns the index of the first event that may not come behind those before it, or None."""
    state = State()
    for at, event in enumerate(events):
        if not event_right(program, state, event):
            return at
        state.apply(event)
    return None


def tasks_right(text, tasks):
    """Returns whether the text of a journal tells an attempt of each task, and none goes out twice in one life."""
    known = _attempts_told(read_records(text)[0])
    seen = {}
    for life, (number, index, attempt, _, _) in tasks:
        told = (number, index, attempt)
        if told not in known or (life, told) in seen:
            return False
        seen[(life, told)] = True
    return True


def _attempts_told(events):
    """Returns a dict with the flow, the number of its answers, and the attempt for each attempt that begins."""
    counts = {}
    known = {}
    for event in events:
        if event[0] == "answer":
            counts[event[1]] = counts.get(event[1], 0) + 1
        elif event[0] == "attempt":
            known[(event[1], counts.get(event[1], 0), event[2])] = True
    return known
