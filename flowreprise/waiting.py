"""What flows wait for: other flows, moments, signals and answers."""

from flowreprise.steps import LONGEST_ATTEMPT, PAUSES, next_event, outcome_of, task_of


def chain(program, state, number):
    """Returns the list of the flows of a chain: a flow, its child, the child's child, and so on."""
    numbers = [number]
    flow = state.flows[number]
    while flow.end is None and flow.child is not None:
        numbers.append(flow.child)
        flow = state.flows[flow.child]
    return numbers


def own_moment(program, state, number):
    """Returns the moment from which on a flow has a next event by time alone, or None."""
    if next_event(program, state, number) is not None:
        return state.moment
    flow = state.flows[number]
    if flow.end is not None:
        return None
    if flow.due is not None:
        return flow.due
    if flow.attempt == 0:
        return None
    if flow.lost is None:
        return flow.since + LONGEST_ATTEMPT
    # Behind the last attempt that is lost there is a next event at once.
    return flow.since + PAUSES[flow.attempt]


def next_moment(program, state):
    """Returns the least moment from which on a flow has a next event by time alone, or None."""
    moments = [own_moment(program, state, number) for number in sorted(state.flows)]
    return min([moment for moment in moments if moment is not None], default=None)


def wanted(program, state, number):
    """Returns what a flow that goes on only by it wants from outside, or None."""
    flow = state.flows[number]
    if flow.end is not None or next_event(program, state, number) is not None:
        return None
    # It waits, as there is a next event otherwise.
    request = outcome_of(program, flow)[1]
    if request[0] == "signal":
        return request
    if request[0] == "act" and flow.lost is None:
        return ("answer", task_of(program, state, number), request[3])
    return None


def last_wanted(program, state, number):
    """Returns the pair of the last flow of a chain and what it wants, or None."""
    last = chain(program, state, number)[-1]
    told = wanted(program, state, last)
    return None if told is None else (last, told)
