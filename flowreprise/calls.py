"""Which functions of a program call which ones."""

from flowreprise.places import rows_of


def calls_of(program, at):
    """Returns the calls in the function with an index.

    They are triples of the place, the name of the function that is called,
    and whether a failure is caught there.
    """
    return [(place, tree[1], is_caught) for place, tree, is_caught in rows_of(program, at) if tree[0] == "call"]


def callees(program):
    """Returns a dict from the names of the functions to the lists of the names that they call."""
    return {
        function[1]: [name for _, name, _ in calls_of(program, at)] for at, function in enumerate(program)}


def reached_from(called, name):
    """Returns the ascending list of the names that one reaches by one or more calls."""
    found = {}
    waiting = list(called[name])
    while waiting:
        other = waiting.pop()
        if other not in found:
            found[other] = True
            waiting.extend(called[other])
    return sorted(found)


def is_in_ring(called, name):
    """Returns whether a function reaches itself."""
    return name in reached_from(called, name)
