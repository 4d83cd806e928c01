"""All ways in which runs may go, whatever they are answered."""

from flowreprise.meaning import run
from flowreprise.operations import is_of
from flowreprise.requests import NAMED, kind_wanted, name_of


def leaves(program, function, values, choices, depth, most):
    """Returns the list of the leaves, pairs of a list of answers and an outcome."""
    found = []
    waiting = [[]]
    while waiting:
        answers = waiting.pop()
        outcome, _ = run(program, function, values, answers, most)
        fitting = []
        if outcome[0] == "waits" and len(answers) < depth:
            fitting = _fitting(choices, outcome[1])
        if fitting:
            # The last one is looked at first.
            waiting.extend([answers + [answer] for answer in reversed(fitting)])
        else:
            found.append((answers, outcome))
    return found


def _fitting(choices, request):
    """Returns the list of the answers of choices that fit a request."""
    answers = choices.get((request[0], name_of(request)), [])
    if request[0] not in NAMED:
        return list(answers)
    kind = kind_wanted(request)
    return [answer for answer in answers if answer[0] != "ok" or is_of(answer[1], kind)]


def outcomes(program, function, values, choices, depth, most):
    """Returns the list of the pairs of an outcome of the leaves and a list of answers that leads to it."""
    found = []
    for answers, outcome in leaves(program, function, values, choices, depth, most):
        told = [k for k, row in enumerate(found) if row[0] == outcome]
        if not told:
            found.append((outcome, answers))
        elif len(answers) < len(found[told[0]][1]):
            found[told[0]] = (outcome, answers)
    return found


def always(program, function, values, choices, depth, most, wanted):
    """Returns None, or the answers of the first leaf that does not wait and has no wanted outcome."""
    for answers, outcome in leaves(program, function, values, choices, depth, most):
        if outcome[0] != "waits" and outcome not in wanted:
            return answers
    return None
