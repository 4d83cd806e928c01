"""How many steps functions without loops take at most."""

from flowreprise.calls import callees, is_in_ring, reached_from
from flowreprise.code import may_fail, targets
from flowreprise.compiling import compile_program, signatures
from flowreprise.places import rows_of
from flowreprise.verifying import verify


def ending(program):
    """Returns the ascending list of the names of the functions that come to an end."""
    called = callees(program)
    loops = {}
    for at, function in enumerate(program):
        loops[function[1]] = any([tree[0] == "while" for _, tree, _ in rows_of(program, at)])
    return sorted([name for name in called if not any([loops[other] for other in _with_reached(called, name)])])


def bounded(program):
    """Returns the ascending list of the names of the functions that are bounded."""
    called = callees(program)
    return [
        name for name in ending(program)
        if not any([is_in_ring(called, other) for other in _with_reached(called, name)])]


def _with_reached(called, name):
    return [name] + reached_from(called, name)


def most_steps(program):
    """Returns a dict from the names of all functions to their greatest number of steps, or None."""
    paper = step_paper(program)
    most = {}
    for function in program:
        name = function[1]
        most[name] = _greatest(list(paper[name][0])) if name in paper else None
    return most


def _greatest(numbers):
    """Returns the greatest of some numbers, None if each of them is None."""
    return max([number for number in numbers if number is not None], default=None)


def step_paper(program):
    """Returns a dict from the names of the bounded functions to the least numbers that hold."""
    called = callees(program)
    codes = compile_program(program)
    states = verify(codes, signatures(program))
    paper = {}
    left = bounded(program)
    while left:
        # Numbers of a function follow from those of the functions that it calls.
        ready = [name for name in left if all([other in paper for other in called[name]])]
        for name in ready:
            paper[name] = _least_numbers(codes[name][4], states[name], paper)
        left = [name for name in left if name not in paper]
    return {name: paper[name] for name in sorted(paper)}


def _least_numbers(rows, states, paper):
    numbers = [None] * len(rows)
    for at in range(len(rows) - 1, -1, -1):
        if states[at] is not None:
            numbers[at] = _following(rows, at, states[at], numbers, paper)
    return numbers


def _following(rows, at, state, numbers, paper):
    """Returns the pair of numbers of a place that follows from those of the next places."""
    if rows[at][0] == "return":
        return (1, None)
    on, failing = _own_steps(rows[at], paper)
    ways = [_longer(numbers[place], on) for place in targets(rows, at)]
    if state[2]:
        ways.append(_longer(numbers[state[2][-1][0]], failing))
    else:
        ways.append((None, failing))
    return (_greatest([back for back, _ in ways]), _greatest([out for _, out in ways]))


def _own_steps(instruction, paper):
    """Returns how many steps an instruction takes until it has gone on, or failed, or None if it cannot."""
    if instruction[0] == "call":
        return _longer(paper[instruction[1]][0], 1)
    return (1, 1) if may_fail(instruction) else (1, None)


def _longer(pair, steps):
    """Returns a pair of numbers with so many steps before them, None if there is no such way."""
    if steps is None:
        return (None, None)
    back, out = pair
    return (None if back is None else back + steps, None if out is None else out + steps)


def paper_holds(program, paper):
    """Returns whether numbers for some functions hold."""
    called = callees(program)
    for name in sorted(paper):
        others = reached_from(called, name)
        if name in others or not all([other in paper for other in others]):
            return False
    codes = compile_program(program)
    states = verify(codes, signatures(program))
    # All numbers are there before any is asked for at a call.
    if not all([_are_complete(states[name], paper[name]) for name in sorted(paper)]):
        return False
    return all([_holds(codes[name][4], states[name], paper[name], paper) for name in sorted(paper)])


def _are_complete(states, numbers):
    """Returns whether there is a pair for each place that is reached, and None for the others."""
    if len(states) != len(numbers):
        return False
    return all([(state is None) == (pair is None) for state, pair in zip(states, numbers)])


def _holds(rows, states, numbers, paper):
    for at, state in enumerate(states):
        if state is not None and not _holds_at(rows, at, state, numbers, paper):
            return False
    return True


def _holds_at(rows, at, state, numbers, paper):
    if any([place <= at for place in targets(rows, at)]):
        return False
    due = _following(rows, at, state, numbers, paper)
    return all([_is_enough(told, least) for told, least in zip(numbers[at], due)])


def _is_enough(told, least):
    return least is None or (told is not None and told >= least)
