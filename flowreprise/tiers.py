"""A tiered machine does several instructions of promoted functions at one go, and gives way to steps."""

from flowreprise.folding import fold
from flowreprise.lifting import LEADING, done_at_once, is_way, lift, runs
from flowreprise.machine import Machine

LONGEST_WAY = 60


class Promotion:
    """The pieces of a promoted function by their first places, and how often steps have led back to places."""

    def __init__(self, rows, known, hot):
        self.rows = rows
        self.known = dict(known)
        self.hot = hot
        self.times = {}
        self.pieces = {}
        for first, end in runs(rows):
            self.put(list(range(first, end + 1)))

    def put(self, places):
        """Lets the piece of a way be the one of its first place, unless there is no folded one."""
        told = fold(lift(self.rows, places), self.known)
        if told is not None:
            self.pieces[places[0]] = told[0]

    def count_step(self, at, place):
        """Counts a step from a place back to one, and returns whether the way from there is recorded."""
        if self.hot == 0 or self.rows[at][0] not in LEADING or place > at:
            return False
        self.times[place] = self.times.get(place, 0) + 1
        return self.times[place] == self.hot


class Tiered:
    """A tiered machine without promoted functions."""

    def __init__(self, codes, function, values):
        self.codes = codes
        self.machine = Machine(codes, function, values)
        self.promoted = {}
        self.done = 0
        self.gave_way = 0
        # The function whose way is recorded, or None, and the places of this way so far.
        self.recorded = None
        self.way = []

    def promote(self, name, known, hot):
        """Promotes a function anew, with known values of slots and a number."""
        self.demote(name)
        self.promoted[name] = Promotion(self.codes[name][4], known, hot)

    def demote(self, name):
        """Forgets the pieces of a function."""
        self.promoted.pop(name, None)
        if self.recorded == name:
            self.recorded = None

    def run(self, most):
        """Does steps until there is an outcome, at most so many, and returns the outcome."""
        machine = self.machine
        last = machine.steps + most
        while machine.steps < last and machine.outcome() is None:
            self._go_on(last - machine.steps)
        told = machine.outcome()
        return ("tired",) if told is None else told

    def _go_on(self, left):
        """Does a piece at one go, if its steps are allowed, or else one step."""
        frame = self.machine.innermost()
        promotion = self.promoted.get(frame.name)
        if promotion is None:
            self.machine.step()
        elif self.recorded is not None or not self._leap(frame, promotion.pieces.get(frame.at), left):
            self._step(frame, promotion)

    def _leap(self, frame, piece, left):
        """Returns whether a piece is done at one go."""
        if piece is None:
            return False
        _, end, count = piece[1]
        if count > left:
            return False
        told = done_at_once(piece, frame.slots, frame.stack)
        if told is None:
            self.gave_way += 1
            return False
        self.machine.leap(end, told, count)
        self.done += 1
        return True

    def _step(self, frame, promotion):
        """Does a step of a promoted function, which may be one of the way that is recorded."""
        at = frame.at
        before = self._heights(frame)
        self.machine.step()
        if self.recorded is not None:
            # A failure takes a guard or the frame away.
            is_on = is_way(promotion.rows, [at, frame.at]) and self._heights(frame) == before
            self._follow(promotion, frame.at, is_on)
        elif promotion.count_step(at, frame.at):
            self.recorded = frame.name
            self.way = [frame.at]

    def _heights(self, frame):
        return self.machine.depth(), len(frame.guards)

    def _follow(self, promotion, place, is_on):
        """Puts a place behind the others of the way that is recorded, if it is on this way, or ends it."""
        self.way.append(place)
        if is_on and place == self.way[0]:
            promotion.put(self.way)
        if not is_on or place == self.way[0] or len(self.way) > LONGEST_WAY:
            self.recorded = None

    def outcome(self):
        """Returns the outcome, None if there is more to do."""
        return self.machine.outcome()

    def answer(self, answer):
        """Takes the answer to the request for which the machine waits."""
        self.machine.answer(answer)

    def call_off(self):
        """Takes the answer that the flow is called off."""
        self.machine.call_off()

    def frames(self):
        """Returns the list of the frames, the innermost one last."""
        return self.machine.frames()

    def saved(self):
        """Returns a tuple with all that the machine is but for its code."""
        return self.machine.saved()
