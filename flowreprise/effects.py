"""What functions may ask for, and how they may fail."""

from flowreprise.calls import callees, calls_of, is_in_ring, reached_from
from flowreprise.failures import is_told_code
from flowreprise.places import rows_of
from flowreprise.values import show_type

FAILS = "fails"
FAILS_BY_QUOTIENT = "fails 1"
FAILS_BY_BOUND = "fails 2"
FAILS_BY_INDEX = "fails 3"
FAILS_BY_DEPTH = "fails 4"


def is_failing(effect):
    """Returns whether an effect is one of failing."""
    return effect == FAILS or effect.startswith(FAILS + " ")


def effects(program):
    """Returns a dict from the names of the functions to the lists of their effects."""
    found = {}
    for at, function in enumerate(program):
        found[function[1]] = {effect: True for effect, _ in own_effects(program, at)}
    calls = {function[1]: calls_of(program, at) for at, function in enumerate(program)}
    while _passes_on(found, calls):
        pass
    return {name: sorted(found[name]) for name in found}


def _passes_on(found, calls):
    """Lets each function have the effects of what it calls, and returns whether some are new."""
    is_new = False
    for name in calls:
        for _, other, is_caught in calls[name]:
            for effect in list(found[other]):
                if effect not in found[name] and _is_passed(effect, is_caught):
                    found[name][effect] = True
                    is_new = True
    return is_new


def _is_passed(effect, is_caught):
    return not (is_caught and is_failing(effect))


def own_effects(program, at):
    """Returns the pairs of an effect and a place that has it by itself, in a function."""
    rings = has_ring(program)
    found = []
    for place, tree, is_caught in rows_of(program, at):
        for effect in _effects_by_itself(tree, rings):
            if _is_passed(effect, is_caught):
                found.append((effect, place))
    return found


def _effects_by_itself(tree, rings):
    word = tree[0]
    if word == "await":
        return [_awaited(tree), FAILS]
    if word in ("now", "random"):
        return [word, FAILS]
    if word == "fail":
        return [_failing_by(tree[1])]
    if word == "op":
        return _failing_by_sign(tree)
    if word == "item":
        return [FAILS_BY_INDEX]
    if word == "call" and rings:
        return [FAILS_BY_DEPTH]
    return []


def _awaited(tree):
    """Returns the effect of asking for what is awaited."""
    if tree[1] == "act":
        return f"act {tree[2]}: {show_type(tree[4])}"
    if tree[1] == "signal":
        return f"signal {tree[2]}: {show_type(tree[3])}"
    if tree[1] == "flow":
        return f"flow {tree[2]}"
    return "timer"


def _failing_by(tree):
    if tree[0] != "int":
        return FAILS
    if is_told_code(tree[1]):
        return f"fails {tree[1]}"
    return FAILS_BY_BOUND


def _failing_by_sign(tree):
    sign, right = tree[1], tree[3]
    if sign in ("+", "-", "*", "&"):
        return [FAILS_BY_BOUND]
    if sign == "/" and not (right[0] == "int" and right[1] > 0):
        return [FAILS_BY_QUOTIENT]
    return []


def way(program, name, effect):
    """Returns the way of fewest places by which a function has an effect, the least of these, or None."""
    owned, passing = _tables(program, effect)
    lengths = _lengths(owned, passing)
    if name not in lengths:
        return None
    places = []
    here = name
    while lengths[here] > 1:
        place, here = min(
            [(place, other) for place, other in passing[here] if lengths.get(other) == lengths[here] - 1])
        places.append(place)
    places.append(min(owned[here]))
    return places


def _tables(program, effect):
    """Returns the places that have an effect by themselves, and the calls that pass it on, by functions.

    A call is a pair of its place and the name of the function that is called.
    """
    owned = {}
    passing = {}
    for at, function in enumerate(program):
        owned[function[1]] = [place for told, place in own_effects(program, at) if told == effect]
        passing[function[1]] = [
            (place, other) for place, other, is_caught in calls_of(program, at) if _is_passed(effect, is_caught)]
    return owned, passing


def _lengths(owned, passing):
    """Returns the least numbers of places of ways, for the functions that have some."""
    lengths = {name: 1 for name in owned if owned[name]}
    length = 1
    is_new = True
    while is_new:
        length += 1
        found = [name for name in owned if name not in lengths and _leads(passing[name], lengths)]
        for name in found:
            lengths[name] = length
        is_new = len(found) > 0
    return lengths


def _leads(calls, lengths):
    return any([other in lengths for _, other in calls])


def way_right(program, name, effect, places):
    """Returns whether a list of places is a way by which a function has an effect."""
    owned, passing = _tables(program, effect)
    if not places or name not in owned:
        return False
    here = name
    for place in places[:-1]:
        others = [other for told, other in passing[here] if told == place]
        if not others:
            return False
        here = others[0]
    return places[-1] in owned[here]


def reached(program, name):
    """Returns the ascending list of the names of the functions that a function reaches by calls."""
    return reached_from(callees(program), name)


def has_ring(program):
    """Returns whether a function of the program reaches itself by calls."""
    called = callees(program)
    return any([is_in_ring(called, name) for name in called])


def without_requests(program):
    """Returns the ascending list of the names of the functions without effects of asking."""
    known = effects(program)
    return sorted([name for name in known if all([is_failing(effect) for effect in known[name]])])


def allows_request(known, request):
    """Returns whether a list of effects has the one of a request."""
    return _requested(request) in known


def _requested(request):
    if request[0] == "act":
        return f"act {request[1]}: {show_type(request[3])}"
    if request[0] == "signal":
        return f"signal {request[1]}: {show_type(request[2])}"
    if request[0] == "flow":
        return f"flow {request[1]}"
    return request[0]


def allows_failure(known, code):
    """Returns whether a list of effects has one of failing with a code."""
    return FAILS in known or f"fails {code}" in known
