"""A world: a journal, an engine that is up or down, and the tasks that have gone out."""

from flowreprise.engines import Engine
from flowreprise.journals import Journal

DOWN = ("down",)
UP = ("up",)


class World:
    """A world with an empty journal and an engine that is up."""

    def __init__(self, program):
        self.program = program
        self.journal = Journal()
        self.tasks = []
        self.life = 1
        self.engine = Engine(program, self.journal)

    def perform(self, deed):
        """Performs a deed and returns the answer."""
        word = deed[0]
        if word == "crash":
            return self._crash(deed[1])
        if word == "open":
            return self._come_up()
        if self.engine is None:
            return DOWN
        if word == "begin":
            return ("flow", self.engine.begin(deed[1], deed[2]))
        if word == "turn":
            return ("tasks", self._turn())
        if word == "end":
            return ("end", self._end(deed[1]))
        return ("ok", self._told(deed))

    def _crash(self, kept):
        self.journal.fall(kept)
        self.engine = None
        return DOWN

    def _come_up(self):
        if self.engine is None:
            self.engine = Engine(self.program, self.journal)
            self.life += 1
        return UP

    def _turn(self):
        """Makes a turn and returns the list of the tasks that go out."""
        tasks = self.engine.turn()
        self.tasks.extend([(self.life, task) for task in tasks])
        return tasks

    def _end(self, number):
        """Returns the outcome of a flow, None if it has not ended or is not there."""
        flows = self.engine.state.flows
        return flows[number].end if number in flows else None

    def _told(self, deed):
        """Performs a deed that counts or not, and returns whether it does."""
        word = deed[0]
        if word == "signal":
            return self.engine.signal(deed[1], deed[2], deed[3])
        if word == "off":
            return self.engine.call_off(deed[1])
        if word == "bring":
            return self._bring(deed[1], deed[2])
        self.engine.tick(deed[1])
        return True

    def _bring(self, k, answer):
        """Brings the answer to the task with an index, and returns whether it counts."""
        if not 0 <= k < len(self.tasks):
            return False
        return self.engine.bring(self.tasks[k][1], answer)
