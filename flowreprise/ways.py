"""How runs go on from place to place in verified code."""

from flowreprise.code import may_fail

NEXT = "next"
JUMP = "jump"
FAIL = "fail"


def ways_from(rows, states, at):
    """Returns the pairs of how a run goes on from a place, and the place that follows."""
    if states[at] is None:
        return []
    instruction = rows[at]
    found = []
    if instruction[0] not in ("jump", "return", "fail"):
        found.append((NEXT, at + 1))
    if instruction[0] in ("jump", "unless"):
        found.append((JUMP, instruction[1]))
    guards = states[at][2]
    if may_fail(instruction) and guards:
        found.append((FAIL, guards[-1][0]))
    return found


def ways_of(rows, states):
    """Returns the triples of a place, how a run goes on from there, and the place that follows."""
    return [(at, how, place) for at in range(len(rows)) for how, place in ways_from(rows, states, at)]
