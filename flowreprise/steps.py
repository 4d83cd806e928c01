"""How flows go on: the next event of a flow."""

from flowreprise.failures import CALLED_OFF, TOO_LATE, TOO_MANY
from flowreprise.meaning import run
from flowreprise.operations import is_of
from flowreprise.requests import kind_wanted
from flowreprise.values import MOST_NUMBER

MOST_STATEMENTS = 60
MOST_FLOWS = 20
LONGEST_ATTEMPT = 10
# How long a lost attempt lies back when the next one begins, for all attempts but the last one.
PAUSES = {1: 2, 2: 4}


def random_for(number, index, most):
    """Returns the random number below one for the request with an index of a flow."""
    return (number * 7919 + index * 104729 + 12345) * 48271 % 2147483647 // 16 % most


def outcome_of(program, flow):
    """Returns the outcome of a flow with its answers."""
    outcome, _ = run(program, flow.function, flow.given, flow.answers, MOST_STATEMENTS)
    return outcome


def next_event(program, state, number):
    """Returns the next event of a flow, or None."""
    flow = state.flows[number]
    if flow.end is not None:
        return None
    outcome = outcome_of(program, flow)
    if outcome[0] != "waits":
        return ("end", number, outcome)
    request = outcome[1]
    if request[0] == "now":
        return _answered(number, ("ok", ("int", min(state.moment, MOST_NUMBER))))
    if request[0] == "random":
        return _answered(number, ("ok", ("int", random_for(number, len(flow.answers), request[1]))))
    if flow.is_off:
        return _answered(number, ("failed", CALLED_OFF))
    return _awaited(state, number, request)


def _answered(number, answer):
    """Returns the event that a request is answered without a signal."""
    return ("answer", number, answer, None)


def _awaited(state, number, request):
    """Returns the next event of a flow that waits for what does not come at once, or None."""
    if request[0] == "timer":
        return _timed(state, number, request)
    if request[0] == "signal":
        return _signalled(state.flows[number], number, request)
    if request[0] == "flow":
        return _parental(state, number, request)
    return _attempted(state, number)


def _timed(state, number, request):
    due = state.flows[number].due
    if due is None:
        return ("due", number, state.moment + request[1])
    return _answered(number, ("ok", ("nothing",))) if state.moment >= due else None


def _signalled(flow, number, request):
    for place, (name, value) in enumerate(flow.signals):
        if name == request[1] and is_of(value, kind_wanted(request)):
            return ("answer", number, ("ok", value), place)
    return None


def _parental(state, number, request):
    child = state.flows[number].child
    if child is not None:
        end = state.flows[child].end
        return None if end is None else _answered(number, _answer_of_child(end))
    if len(state.flows) >= MOST_FLOWS:
        return _answered(number, ("failed", TOO_MANY))
    return ("begin", len(state.flows) + 1, request[1], list(request[2]), number)


def _answer_of_child(end):
    """Returns the answer that a flow gets from how its child has ended."""
    if end[0] == "done":
        return ("ok", end[1])
    return ("failed", end[1] if end[0] == "failed" else TOO_MANY)


def _attempted(state, number):
    flow = state.flows[number]
    if flow.attempt == 0:
        return ("attempt", number, 1)
    passed = state.moment - flow.since
    if flow.lost is None:
        return ("lost", number, TOO_LATE) if passed >= LONGEST_ATTEMPT else None
    if flow.attempt not in PAUSES:
        return _answered(number, ("failed", flow.lost))
    return ("attempt", number, flow.attempt + 1) if passed >= PAUSES[flow.attempt] else None


def task_of(program, state, number):
    """Returns the task of the last attempt of a flow at the activity for which it waits."""
    flow = state.flows[number]
    _, name, value, _ = outcome_of(program, flow)[1]
    return (number, len(flow.answers), flow.attempt, name, value)


def settle_flows(state, next_of, write):
    """Goes on with all flows of a state as far as there are next events, in passes.

    What is passed tells the next event of a flow, and takes an event in.
    """
    is_new = True
    while is_new:
        is_new = False
        for number in sorted(state.flows):
            event = next_of(number)
            while event is not None:
                is_new = True
                write(event)
                event = next_of(number)
