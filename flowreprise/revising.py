"""Flows go on by another program: which places of old code belong to which ones of new code."""

from flowreprise.verifying import SLOTS, verify
from flowreprise.ways import FAIL, NEXT, ways_from, ways_of


class Pairing:
    """What of the old code of a function belongs to what of its new code, in a match or while one is found.

    A match itself is the places and the slots; the old places of guards that
    are the same belong to new ones besides.
    """

    def __init__(self, code, fresh, states, places, slots):
        self.rows = code[4]
        self.fresh = fresh[4]
        self.states = states
        self.places = dict(places)
        self.slots = dict(slots)
        self.guards = {}
        self.wrong = {}

    def is_same(self, at):
        """Returns whether the instruction of a place is in the match, and the same in the new code."""
        return at in self.places and _is_same(self.rows[at], self.fresh[self.places[at]], self.slots)

    def is_whole(self):
        """Returns whether each place that is ever reached is in the match, with the same instruction."""
        return all([self.is_same(at) for at, state in enumerate(self.states) if state is not None])

    def led(self, at, how, place):
        """Returns the new place to which the new code leads in the same way, None if there is none."""
        if how == FAIL:
            return self.guards.get(place)
        return self.places[at] + 1 if how == NEXT else self.fresh[self.places[at]][1]

    def note_guards(self):
        """Notes where the guards that are the same lead, and returns whether they agree."""
        for at in sorted(self.places):
            if self.rows[at][0] == "guard" and self.is_same(at) and not self.note_guard(at):
                return False
        return True

    def note_guard(self, at):
        """Notes where a guard leads, and returns whether that agrees with those noted before."""
        place = self.fresh[self.places[at]][1]
        return self.guards.setdefault(self.rows[at][1], place) == place

    def join_slots(self, at):
        """Lets the slots of instructions of one kind belong to each other, if both are free."""
        one, other = self.rows[at], self.fresh[self.places[at]]
        if one[0] != other[0] or one[0] not in SLOTS:
            return
        slot, fresh_slot = one[SLOTS[one[0]]], other[SLOTS[one[0]]]
        if slot not in self.slots and fresh_slot not in list(self.slots.values()):
            self.slots[slot] = fresh_slot

    def look_at(self, at):
        """Follows the ways from a place whose instruction is the same."""
        self.join_slots(at)
        if not self.is_same(at):
            return
        if self.rows[at][0] == "guard" and not self.note_guard(at):
            self.wrong[at] = True
            return
        for how, place in ways_from(self.rows, self.states, at):
            fresh_place = self.led(at, how, place)
            if self.places.setdefault(place, fresh_place) != fresh_place:
                self.wrong[place] = True

    def follow_all(self):
        """Finds all places that belong to new ones, the least one first."""
        seen = {}
        while len(seen) < len(self.places):
            at = min([place for place in self.places if place not in seen])
            seen[at] = True
            self.look_at(at)
        self.leave_out(self.wrong)

    def leave_out(self, places):
        """Leaves places out."""
        self.places = {at: self.places[at] for at in self.places if at not in places}


def _is_same(one, other, slots):
    """Returns whether two instructions are the same, for the slots that belong to each other."""
    if one[0] != other[0]:
        return False
    if one[0] in SLOTS:
        at = SLOTS[one[0]]
        return slots.get(one[at]) == other[at]
    return one[0] in ("jump", "unless") or one == other


def matched(old, fresh, signatures):
    """Returns the match that is found."""
    states = verify(old, signatures[0])
    pairs = {}
    for name in sorted(old):
        if _is_shared(name, signatures):
            params = {slot: slot for slot in range(old[name][2])}
            pairs[name] = Pairing(old[name], fresh[name], states[name], {0: 0}, params)
            pairs[name].follow_all()
    is_new = True
    while is_new:
        pairs = {name: pairs[name] for name in pairs if 0 in pairs[name].places}
        is_new = _leave_out_wrong(pairs)
    return {name: (pairs[name].places, pairs[name].slots) for name in pairs}


def _is_shared(name, signatures):
    """Returns whether both programs have a function with the same signature."""
    one, other = signatures
    return name in one and name in other and one[name] == other[name]


def _leave_out_wrong(pairs):
    """Leaves out the places to which a wrong way leads, and returns whether there are some."""
    whole = _whole_names(pairs)
    is_new = False
    for name in pairs:
        wrong = {}
        for at, _, place in ways_of(pairs[name].rows, pairs[name].states):
            if place in pairs[name].places and not _is_kept(pairs[name], at, whole):
                wrong[place] = True
        pairs[name].leave_out(wrong)
        is_new = is_new or len(wrong) > 0
    return is_new


def _whole_names(pairs):
    return [name for name in pairs if pairs[name].is_whole()]


def _is_kept(pair, at, whole):
    """Returns whether a way from a place may be one of a match, for the functions that are whole."""
    if not pair.is_same(at):
        return False
    return pair.rows[at][0] != "call" or pair.rows[at][1] in whole


def match_right(old, fresh, signatures, paper):
    """Returns whether a match is right."""
    if not all([_is_shared(name, signatures) for name in paper]):
        return False
    pairs = _pairings(old, fresh, signatures, paper)
    if not all([_is_placed(pairs[name]) and _is_slotted(pairs[name], old[name], fresh[name]) for name in pairs]):
        return False
    if not all([pairs[name].note_guards() for name in pairs]):
        return False
    whole = _whole_names(pairs)
    return all([_leads_right(pairs[name], whole) for name in pairs])


def _pairings(old, fresh, signatures, paper):
    states = verify(old, signatures[0])
    return {name: Pairing(old[name], fresh[name], states[name], paper[name][0], paper[name][1]) for name in paper}


def _is_placed(pair):
    """Returns whether the places of a match are some that are reached, and places of the new code."""
    if pair.places.get(0) != 0:
        return False
    for at in pair.places:
        if not (0 <= at < len(pair.rows) and pair.states[at] is not None):
            return False
    return all([0 <= place < len(pair.fresh) for place in pair.places.values()])


def _is_slotted(pair, code, fresh):
    """Returns whether the slots of a match are those of the codes, each in one pair, and parameters their own."""
    one = list(pair.slots)
    other = list(pair.slots.values())
    if not all([0 <= slot < code[3] for slot in one]) or not all([0 <= slot < fresh[3] for slot in other]):
        return False
    return len(set(other)) == len(other) and all([pair.slots.get(slot) == slot for slot in range(code[2])])


def _leads_right(pair, whole):
    """Returns whether each way that leads to a place in a match is one of the new code, too."""
    for at, how, place in ways_of(pair.rows, pair.states):
        if place in pair.places:
            if not _is_kept(pair, at, whole) or pair.led(at, how, place) != pair.places[place]:
                return False
    return True


def carried(old, fresh, signatures, paper, saved):
    """Returns what a saved machine is by the new code and a right match, or None."""
    frames, steps, asked, end = saved
    if end is not None or not all([frame[0] in paper for frame in frames]):
        return None
    pairs = _pairings(old, fresh, signatures, paper)
    moved = []
    for k, frame in enumerate(frames):
        is_waiting = asked is not None or k < len(frames) - 1
        place = _moved_place(pairs[frame[0]], frame[1], is_waiting)
        if place is None:
            return None
        moved.append(_moved(pairs[frame[0]], frame, place, fresh[frame[0]][3]))
    return (tuple(moved), steps, asked, None)


def _moved_place(pair, at, is_waiting):
    """Returns the new next place of a frame, or None if it cannot be carried over."""
    if not is_waiting:
        return pair.places.get(at)
    return pair.places[at - 1] + 1 if pair.is_same(at - 1) else None


def _moved(pair, frame, place, count):
    """Returns a frame with a new next place and so many slots."""
    name, _, slots, stack, guards = frame
    pair.note_guards()
    moved = [None] * count
    for slot in pair.slots:
        moved[pair.slots[slot]] = slots[slot]
    return (name, place, tuple(moved), stack, tuple([
        (pair.guards[goal], pair.slots[slot], height) for goal, slot, height in guards]))
