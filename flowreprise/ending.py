"""Loops that count show that functions come to an end."""

from flowreprise.code import leaders
from flowreprise.verifying import verify
from flowreprise.ways import FAIL, ways_of

COMPARING = ("<", "<=")


def circles(pairs):
    """Returns the ascending list of the circles of pairs of integers."""
    after = _neighbours(pairs)
    before = _neighbours([(place, at) for at, place in pairs])
    order = _ordered_by_ends(after)
    found = []
    seen = {}
    for at in reversed(order):
        if at not in seen:
            members = _collected(before, at, seen)
            if len(members) > 1 or at in after[at]:
                found.append(sorted(members))
    return sorted(found)


def _neighbours(pairs):
    """Returns a dict from the places of pairs to the lists of those to which they lead."""
    after = {}
    for at, place in pairs:
        after.setdefault(at, []).append(place)
        after.setdefault(place, [])
    return after


def _ordered_by_ends(after):
    """Returns all places in the order in which going on from them comes to its end."""
    order = []
    seen = {}
    for start in after:
        waiting = [(start, False)]
        while waiting:
            at, is_over = waiting.pop()
            if is_over:
                order.append(at)
            elif at not in seen:
                seen[at] = True
                waiting.append((at, True))
                waiting.extend([(place, False) for place in after[at]])
    return order


def _collected(leads, start, seen):
    """Returns the places not seen before that can be reached from one, and takes note of them."""
    members = []
    waiting = [start]
    while waiting:
        at = waiting.pop()
        if at not in seen:
            seen[at] = True
            members.append(at)
            waiting.extend(leads[at])
    return members


class Flowing:
    """The instructions of verified code, and how runs go through them."""

    def __init__(self, code, signatures):
        states = verify({code[1]: code}, signatures)[code[1]]
        ways = ways_of(code[4], states)
        self.rows = code[4]
        self.entries = leaders(code[4])
        self.pairs = sorted(set([(at, place) for at, _, place in ways]))
        # Triples of a place that may fail, the place to which this leads, and the slot of the code.
        self.failures = [(at, place, states[at][2][-1][1]) for at, how, place in ways if how == FAIL]

    def is_entered(self, at):
        """Returns whether an instruction leads to one of the three places that end with one."""
        return any([place in self.entries for place in range(at - 2, at + 1)])

    def test_at(self, head):
        """Returns the slot of the counted test at a place and the instruction of its bound, or None."""
        if not 3 <= head < len(self.rows) or self.is_entered(head):
            return None
        first, bound, sign, test = self.rows[head - 3:head + 1]
        if first[0] != "get" or sign[0] != "op" or sign[1] not in COMPARING or test[0] != "unless":
            return None
        if bound[0] == "push" or (bound[0] == "get" and bound[1] != first[1]):
            return first[1], bound
        return None

    def counts(self, at):
        """Returns whether the "put" of a place counts for its slot."""
        if at < 3 or self.is_entered(at) or self.rows[at - 1] != ("op", "+"):
            return False
        got = ("get", self.rows[at][1])
        one, other = self.rows[at - 3:at - 1]
        return (one == got and _is_step(other)) or (other == got and _is_step(one))

    def has_bound(self, pairs, head):
        """Returns whether a counted test at a place bounds a circle that is told by its pairs."""
        test = self.test_at(head)
        if test is None or (head, head + 1) not in pairs:
            return False
        slot, bound = test
        slots = [slot, bound[1]] if bound[0] == "get" else [slot]
        inside = {at: True for at, _ in pairs}
        for at, place, caught in self.failures:
            if at in inside and place in inside and caught in slots:
                return False
        puts = [at for at in inside if self.rows[at][0] == "put" and self.rows[at][1] in slots]
        if not all([self.rows[at][1] == slot and self.counts(at) for at in puts]):
            return False
        after = _neighbours([pair for pair in pairs if pair[0] not in puts])
        return head not in _collected(after, head + 1, {})


def _is_step(instruction):
    """Returns whether an instruction pushes an integer by which a slot may count."""
    return instruction[0] == "push" and instruction[1][0] == "int" and instruction[1][1] >= 1


def _pairs_of(pairs, circle):
    """Returns the pairs of a circle, in their order."""
    inside = {at: True for at in circle}
    return [(at, place) for at, place in pairs if at in inside and place in inside]


def _without(pairs, head):
    """Returns pairs without that of a test and the next place."""
    return [pair for pair in pairs if pair != (head, head + 1)]


def prove_end(code, signatures):
    """Returns the paper that the function of verified code comes to an end, or None."""
    flowing = Flowing(code, signatures)
    return _proof(flowing, flowing.pairs)


def _proof(flowing, pairs):
    paper = []
    for circle in circles(pairs):
        inside = _pairs_of(pairs, circle)
        heads = [at for at in circle if flowing.has_bound(inside, at)]
        # What bounds a circle bounds all parts of it, so if there is a paper, there is one for the rest of any test.
        rest = _proof(flowing, _without(inside, heads[0])) if heads else None
        if rest is None:
            return None
        paper.append((heads[0], rest))
    return paper


def end_right(code, signatures, paper):
    """Returns whether a paper shows that the function of verified code comes to an end."""
    flowing = Flowing(code, signatures)
    return _is_proof(flowing, flowing.pairs, paper)


def _is_proof(flowing, pairs, paper):
    found = circles(pairs)
    if len(found) != len(paper):
        return False
    for circle, (head, rest) in zip(found, paper):
        inside = _pairs_of(pairs, circle)
        if not flowing.has_bound(inside, head) or not _is_proof(flowing, _without(inside, head), rest):
            return False
    return True


def turns_left(code, head, slots):
    """Returns how often at most a loop goes on from its counted test at a place, for the values of the slots."""
    slot, bound, sign = code[4][head - 3:head]
    most = bound[1] if bound[0] == "push" else slots[bound[1]]
    left = most[1] - slots[slot[1]][1]
    return max(0, left + 1 if sign[1] == "<=" else left)
