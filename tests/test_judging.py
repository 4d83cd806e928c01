import copy
import random
import unittest

from flowreprise.journals import Journal, read_records, record_of
from flowreprise.judging import event_right, first_wrong, tasks_right
from flowreprise.states import State, state_of
from flowreprise.trees import read_program
from flowreprise.worlds import World
from tests.helper import KINDS, Maker, check_untouched, deed_for, has_kind, random_value, told_of, wanted_kind
from tests.test_steps import event_by_words

ONE, NONE, WORD = ("int", 1), ("nothing",), ("text", "a")
PROGRAM = read_program("""
    fn acts(n: int): int { return await act pay(n): int; }
    fn timers(n: int): int { do await timer(n); return 1; }
    fn signals(n: int): [int] { return await signal go: [int]; }
    fn flows(n: int): int { return await flow acts(n); }
    fn both(n: int): int { return now * 100 + random(n); }
    fn done(n: int): int { return n; }
    fn lists(r: [[int]], b: bool): int { return size(r); }
    fn texts(n: int): text { return await act name(n): text; }""")


def begun(name, *more, n=7):
    """The events that begin the flow 1 with a function, and more events."""
    return [("begin", 1, name, [("int", n)], None), *more]


def right_by_words(program, state, event):
    """Whether an event may come, by the words of point 83."""
    if event[0] == "tick":
        return not event[1] < state.moment
    if event[0] == "begin" and event[4] is None:
        rows = [row for row in program if row[1] == event[2]]
        kinds = [kind for _, kind in rows[0][2]] if rows else None
        return rows != [] and event[1] == max([0, *state.flows]) + 1 and len(kinds) == len(event[3]) and all(
            has_kind(value, kind) for value, kind in zip(event[3], kinds))
    flow = state.flows.get(event[4] if event[0] == "begin" else event[1])
    if flow is None or flow.end is not None:
        return False
    number = event[4] if event[0] == "begin" else event[1]
    if event_by_words(program, state, number) == event or event[0] in ("signal", "off"):
        return True
    if not flow.attempt or flow.lost is not None:
        return False
    if event[0] == "answer":
        kind = wanted_kind(program, flow)
        return event[2][0] == "ok" and event[3] is None and has_kind(event[2][1], kind)
    return event[0] == "sent" and not flow.is_sent or event[0] == "lost" and event[2] in range(100, 1000)


class Case(unittest.TestCase):
    def check(self, before, event, wanted):
        """Checks whether an event may come behind others, which may come themselves."""
        self.assertIsNone(first_wrong(PROGRAM, before))
        state = state_of(before)
        told = copy.deepcopy(told_of(state))
        self.assertIs(check_untouched(self, lambda one: event_right(PROGRAM, state, one), event), wanted, event)
        self.assertEqual(told_of(state), told)
        self.assertIs(right_by_words(PROGRAM, state, event), wanted)
        wrong = check_untouched(self, first_wrong, PROGRAM, [*before, event])
        self.assertEqual(wrong, None if wanted else len(before))
        self.assertEqual(first_wrong(PROGRAM, [*before, event, ("off", 99)]), len(before) + wanted)


class TestEvents(Case):
    def test_ticks(self):
        for moment, wanted in ((0, True), (1, True), (10 ** 13, True), (-1, False)):
            self.check([], ("tick", moment), wanted)
        for moment, wanted in ((4, False), (5, True), (6, True), (0, False)):
            self.check([("tick", 5)], ("tick", moment), wanted)

    def test_beginnings(self):
        one = ("begin", 1, "acts", [ONE], None)
        for event, wanted in (
                (one, True), (("begin", 1, "lists", [("list", ()), ("bool", True)], None), True),
                (("begin", 1, "lists", [("list", (("list", (ONE,)), ("list", ()))), ("bool", True)], None), True),
                (("begin", 2, "acts", [ONE], None), False), (("begin", 0, "acts", [ONE], None), False),
                (("begin", 1, "other", [ONE], None), False), (("begin", 1, "acts", [], None), False),
                (("begin", 1, "acts", [ONE, ONE], None), False), (("begin", 1, "acts", [WORD], None), False),
                (("begin", 1, "lists", [("list", (ONE,)), ("bool", True)], None), False),
                (("begin", 1, "lists", [("list", ()), ONE], None), False), (("begin", 1, "acts", [ONE], 1), False)):
            self.check([], event, wanted)
        self.assertIs(event_right(PROGRAM, State(), ("begin", 1, "acts", [("int", 10 ** 12 + 1)], None)), False)
        self.check([one], ("begin", 2, "done", [ONE], None), True)
        self.check([one], ("begin", 1, "done", [ONE], None), False)
        self.check([one], ("begin", 3, "done", [ONE], None), False)

    def test_more_than_twenty_flows(self):
        rows = [("begin", k, "done", [ONE], None) for k in range(1, 31)]
        self.check(rows, ("begin", 31, "done", [ONE], None), True)
        self.check(rows, ("begin", 32, "done", [ONE], None), False)

    def test_children(self):
        rows = begun("flows")
        child = ("begin", 2, "acts", [("int", 7)], 1)
        self.check(rows, child, True)
        for event in (("begin", 3, "acts", [("int", 7)], 1), ("begin", 2, "acts", [("int", 8)], 1), ("begin", 2, "acts", [], 1),
                      ("begin", 2, "done", [("int", 7)], 1), ("begin", 2, "acts", [("int", 7)], 2),
                      ("begin", 2, "acts", [("int", 7)], 0), ("begin", 1, "acts", [("int", 7)], 1)):
            self.check(rows, event, False)
        # From outside it may begin, but then it is no child.
        self.check(rows, ("begin", 2, "acts", [("int", 7)], None), True)
        self.check([*rows, child], ("begin", 3, "acts", [("int", 7)], 1), False)
        self.check([*rows, ("off", 1)], child, False)
        self.check(begun("acts"), child, False)
        more = [("begin", k, "done", [ONE], None) for k in range(2, 21)]
        self.check([*rows, *more], ("begin", 21, "acts", [("int", 7)], 1), False)
        self.check([*rows, *more], ("answer", 1, ("failed", 4), None), True)
        self.check([*rows, *more[:-1]], ("begin", 20, "acts", [("int", 7)], 1), True)

    def test_signals_and_calling_off(self):
        for rows, wanted in (
                (begun("acts"), True), (begun("signals"), True), (begun("done"), True), ([], False), (begun("acts", ("off", 1)), True),
                (begun("done", ("end", 1, ("done", ("int", 7)))), False)):
            for value in (ONE, NONE, WORD, ("list", ())):
                self.check(rows, ("signal", 1, "go", value), wanted)
            self.check(rows, ("off", 1), wanted)
            for number in (0, -1, 2):
                self.check(rows, ("off", number), False)
                self.check(rows, ("signal", number, "go", ONE), False)

    def test_ends(self):
        self.check(begun("done"), ("end", 1, ("done", ("int", 7))), True)
        for end in (("done", ONE), ("failed", 7), ("tired",), ("waits", ("now",)), ("failed", 404)):
            self.check(begun("done"), ("end", 1, end), False)
            self.check(begun("acts"), ("end", 1, end), False)
        self.check(begun("done", ("end", 1, ("done", ("int", 7)))), ("end", 1, ("done", ("int", 7))), False)
        self.check([], ("end", 1, ("done", ("int", 7))), False)
        self.check(begun("done", ("off", 1)), ("end", 1, ("done", ("int", 7))), True)

    def test_timers(self):
        rows = [("tick", 5), *begun("timers")]
        self.check(rows, ("due", 1, 12), True)
        for event in (("due", 1, 11), ("due", 1, 13), ("due", 2, 12), ("answer", 1, ("ok", NONE), None)):
            self.check(rows, event, False)
        rows = [*rows, ("due", 1, 12)]
        done = ("answer", 1, ("ok", NONE), None)
        self.check(rows, ("due", 1, 12), False)
        for moment, wanted in ((11, False), (12, True), (99, True)):
            self.check([*rows, ("tick", moment)], done, wanted)
            self.check([*rows, ("tick", moment)], ("answer", 1, ("ok", ONE), None), False)
            self.check([*rows, ("tick", moment)], ("answer", 1, ("ok", NONE), 0), False)
            self.check([*rows, ("tick", moment), ("off", 1)], done, False)
            self.check([*rows, ("tick", moment), ("off", 1)], ("answer", 1, ("failed", 5), None), True)
        self.check(begun("acts"), ("due", 1, 7), False)

    def test_answers_by_signals(self):
        right = ("list", (ONE,))
        rows = begun("signals", ("signal", 1, "go", ONE), ("signal", 1, "go", right), ("signal", 1, "go", ("list", ())))
        self.check(rows, ("answer", 1, ("ok", right), 1), True)
        for told, place in ((right, 0), (right, None), (("list", ()), 2), (("list", ()), 1), (ONE, 0), (right, 2)):
            self.check(rows, ("answer", 1, ("ok", told), place), False)
        self.check(rows, ("answer", 1, ("failed", 404), None), False)
        self.check(begun("signals"), ("answer", 1, ("ok", right), None), False)
        self.check(begun("signals"), ("answer", 1, ("ok", right), 0), False)

    def test_answers_at_once(self):
        rows = [("tick", 5), *begun("both")]
        self.check(rows, ("answer", 1, ("ok", ("int", 5)), None), True)
        self.check(rows, ("answer", 1, ("ok", ("int", 4)), None), False)
        self.check(rows, ("answer", 1, ("failed", 5), None), False)
        self.check([*rows, ("off", 1)], ("answer", 1, ("ok", ("int", 5)), None), True)

    def test_answers_of_children(self):
        rows = begun("flows", ("begin", 2, "acts", [("int", 7)], 1), ("attempt", 2, 1), ("answer", 2, ("ok", ONE), None))
        self.check(rows, ("answer", 1, ("ok", ONE), None), False)
        self.check([*rows, ("end", 2, ("done", ONE))], ("answer", 1, ("ok", ONE), None), True)
        self.check([*rows, ("end", 2, ("done", ONE))], ("answer", 1, ("ok", ("int", 2)), None), False)

    def test_attempts(self):
        rows = begun("acts")
        self.check(rows, ("attempt", 1, 1), True)
        for number in (0, 2, 3):
            self.check(rows, ("attempt", 1, number), False)
        rows = [*rows, ("attempt", 1, 1)]
        self.check(rows, ("attempt", 1, 1), False)
        self.check(rows, ("attempt", 1, 2), False)
        lost = [*rows, ("lost", 1, 404)]
        self.check(lost, ("attempt", 1, 2), False)
        self.check([*lost, ("tick", 1)], ("attempt", 1, 2), False)
        self.check([*lost, ("tick", 2)], ("attempt", 1, 2), True)
        self.check([*lost, ("tick", 2)], ("attempt", 1, 3), False)
        self.check([*lost, ("tick", 2), ("off", 1)], ("attempt", 1, 2), False)
        self.check(begun("timers"), ("attempt", 1, 1), False)

    def test_sent(self):
        rows = begun("acts", ("attempt", 1, 1))
        self.check(rows, ("sent", 1), True)
        self.check([*rows, ("off", 1)], ("sent", 1), True)
        self.check([*rows, ("sent", 1)], ("sent", 1), False)
        self.check([*rows, ("lost", 1, 404)], ("sent", 1), False)
        self.check([*rows, ("answer", 1, ("ok", ONE), None)], ("sent", 1), False)
        self.check(begun("acts"), ("sent", 1), False)
        self.check(begun("timers", ("due", 1, 7)), ("sent", 1), False)
        self.check(rows, ("sent", 2), False)
        again = [*rows, ("sent", 1), ("lost", 1, 404), ("tick", 2), ("attempt", 1, 2)]
        self.check(again, ("sent", 1), True)

    def test_lost(self):
        rows = begun("acts", ("attempt", 1, 1))
        for code, wanted in ((100, True), (404, True), (999, True), (99, False), (1000, False), (0, False), (6, False), (5, False)):
            self.check(rows, ("lost", 1, code), wanted)
            self.check([*rows, ("off", 1)], ("lost", 1, code), wanted)
            self.check([*rows, ("lost", 1, 404)], ("lost", 1, code), False)
            self.check(begun("acts"), ("lost", 1, code), False)
        self.check([*rows, ("tick", 9)], ("lost", 1, 6), False)
        for code, wanted in ((6, True), (404, True), (7, False)):
            self.check([*rows, ("tick", 10)], ("lost", 1, code), wanted)
        self.check([*rows, ("tick", 10), ("off", 1)], ("lost", 1, 6), False)

    def test_answers_to_activities(self):
        rows = begun("acts", ("attempt", 1, 1))
        for answer, place, wanted in (
                (("ok", ONE), None, True), (("ok", ONE), 0, False), (("ok", WORD), None, False), (("ok", NONE), None, False),
                (("failed", 404), None, False), (("failed", 6), None, False), (("failed", 5), None, False)):
            self.check(rows, ("answer", 1, answer, place), wanted)
            self.check([*rows, ("sent", 1), ("tick", 50)], ("answer", 1, answer, place), wanted)
            self.check(begun("acts"), ("answer", 1, answer, place), False)
            self.check([*rows, ("lost", 1, 404)], ("answer", 1, answer, place), False)
            off = wanted or (answer, place) == (("failed", 5), None)
            self.check([*rows, ("off", 1)], ("answer", 1, answer, place), off)
        self.assertFalse(event_right(PROGRAM, state_of(rows), ("answer", 1, ("ok", ("int", 10 ** 12 + 1)), None)))
        self.check(begun("texts", ("attempt", 1, 1)), ("answer", 1, ("ok", WORD), None), True)
        self.check(begun("texts", ("attempt", 1, 1)), ("answer", 1, ("ok", ONE), None), False)
        third = [*rows, ("lost", 1, 301), ("tick", 2), ("attempt", 1, 2), ("lost", 1, 302), ("tick", 6), ("attempt", 1, 3)]
        self.check([*third, ("lost", 1, 303)], ("answer", 1, ("failed", 303), None), True)
        self.check([*third, ("lost", 1, 303)], ("answer", 1, ("failed", 302), None), False)
        self.check(third, ("answer", 1, ("failed", 302), None), False)
        over = begun("acts", ("attempt", 1, 1), ("answer", 1, ("ok", ONE), None), ("end", 1, ("done", ONE)))
        self.check(over, ("answer", 1, ("ok", ONE), None), False)


class TestHistories(Case):
    def test_empty(self):
        self.assertIsNone(first_wrong(PROGRAM, []))

    def test_histories_of_worlds_and_turned_ones(self):
        wrong = right = 0
        for seed in range(60):
            rng = random.Random(seed)
            world = World(Maker(rng).program() if seed % 2 else PROGRAM)
            for _ in range(40):
                world.perform(deed_for(rng, world))
            events = read_records(world.journal.text)[0]
            self.assertIsNone(check_untouched(self, first_wrong, world.program, events))
            for _ in range(8):
                if not events:
                    break
                turned = turned_events(rng, events, world.program)
                told = check_untouched(self, first_wrong, world.program, turned)
                self.assertEqual(told, first_by_words(world.program, turned))
                wrong += told is not None
                right += told is None
        self.assertGreater(min(wrong, right), 60)


def first_by_words(program, events):
    state = State()
    for at, event in enumerate(events):
        if not right_by_words(program, state, event):
            return at
        state.apply(event)
    return None


def turned_events(rng, events, program):
    """A history with an event otherwise, more or less, or at another place."""
    at = rng.randrange(len(events))
    event = events[at]
    way = rng.randrange(5)
    if way == 0:
        return events[:at] + events[at + 1:]
    if way == 1:
        return events[:at] + [event, event] + events[at + 1:]
    if way == 2:
        other = rng.randrange(len(events))
        rest = events[:at] + events[at + 1:]
        return rest[:other] + [event] + rest[other:]
    fresh = list(event)
    if way == 3 and len(event) > 1 and event[0] != "begin":
        fresh[1] = event[1] + rng.choice([-1, 1])
    elif event[0] in ("due", "attempt", "lost"):
        fresh[2] = event[2] + rng.choice([-1, 1, 100])
    elif event[0] == "answer":
        value = random_value(rng, rng.choice(KINDS), True)
        fresh[2:] = rng.choice([[("ok", value), event[3]], [event[2], 0], [("failed", rng.choice([5, 6, 404])), None]])
    elif event[0] == "begin":
        k, told = rng.choice([(1, event[1] + 1), (2, rng.choice(program)[1]), (3, event[3] + [ONE]), (4, None), (4, 1)])
        fresh[k] = told
    elif event[0] == "end":
        fresh[2] = rng.choice([("done", ONE), ("failed", 4), ("tired",)])
    return events[:at] + [tuple(fresh)] + events[at + 1:]


class TestTasks(unittest.TestCase):
    def text_of(self, *events):
        return "".join(record_of(event) for event in events)

    def setUp(self):
        self.text = self.text_of(
            *begun("acts"), ("attempt", 1, 1), ("sent", 1), ("lost", 1, 404), ("tick", 2), ("attempt", 1, 2),
            ("begin", 2, "acts", [ONE], None), ("answer", 1, ("ok", ONE), None), ("attempt", 2, 1), ("attempt", 1, 1))

    def check(self, wanted, *tasks, text=None):
        told = self.text if text is None else text
        self.assertIs(check_untouched(unittest.TestCase(), tasks_right, told, list(tasks)), wanted)

    def task(self, life, number, index, attempt):
        return (life, (number, index, attempt, "pay", ("int", 7)))

    def test_attempts(self):
        self.check(True)
        self.check(True, text="")
        for told in ((1, 0, 1), (1, 0, 2), (2, 0, 1), (1, 1, 1)):
            self.check(True, self.task(1, *told))
            self.check(True, self.task(7, *told))
            self.check(False, self.task(1, *told), text="")
        for told in ((1, 0, 3), (1, 1, 2), (2, 1, 1), (2, 0, 2), (3, 0, 1), (1, 2, 1), (0, 0, 1), (1, 0, 0)):
            self.check(False, self.task(1, *told))
            self.check(False, self.task(1, 1, 0, 1), self.task(1, *told))

    def test_twice(self):
        one, other = self.task(1, 1, 0, 1), self.task(2, 1, 0, 1)
        self.check(False, one, one)
        self.check(True, one, other)
        self.check(False, one, other, one)
        self.check(False, one, self.task(1, 2, 0, 1), self.task(2, 2, 0, 1), other, other)
        self.check(True, one, self.task(1, 2, 0, 1), self.task(1, 1, 0, 2), self.task(1, 1, 1, 1))
        # The index is the number of all answers that the flow has.
        more = self.text_of(*[("answer", 1, ("ok", ONE), None)] * 2, ("answer", 2, ("ok", ONE), None), ("attempt", 1, 1))
        for index in range(5):
            self.check(index == 2, self.task(1, 1, index, 1), text=more)
        # The name and the value are not looked at.
        self.check(False, one, (1, (1, 0, 1, "send", ONE)))

    def test_what_is_behind_the_records(self):
        whole = self.text_of(*begun("acts"), ("attempt", 1, 1))
        for cut in range(len(whole)):
            self.check(False, self.task(1, 1, 0, 1), text=whole[:cut])
        self.check(True, self.task(1, 1, 0, 1), text=whole + "(i5;)z")

    def test_worlds(self):
        """All tasks of a world are right, for the safe part of its journal, too."""
        many = 0
        for seed in range(80):
            rng = random.Random(seed)
            world = World(PROGRAM if seed % 3 else Maker(rng).program())
            for _ in range(60):
                world.perform(deed_for(rng, world, 0.12))
                self.assertIs(tasks_right(world.journal.text, world.tasks), True)
                self.assertIs(tasks_right(world.journal.text[:world.journal.safe], world.tasks), True)
            many += len(world.tasks)
            if world.tasks:
                told = rng.choice(world.tasks)
                self.assertIs(tasks_right(world.journal.text, [*world.tasks, told]), False)
                self.assertIs(tasks_right(world.journal.text, [*world.tasks, (world.life + 1, told[1])]), True)
                number, index, attempt, name, value = told[1]
                for other in ((number + 99, index, attempt), (number, index + 99, attempt), (number, index, attempt + 3)):
                    self.assertIs(tasks_right(world.journal.text, [(99, (*other, name, value))]), False)
        self.assertGreater(many, 150)


class TestJournalOfEvents(unittest.TestCase):
    def test_read_back(self):
        journal = Journal()
        events = begun("flows", ("begin", 2, "acts", [("int", 7)], 1))
        for event in events:
            journal.append(event)
        self.assertIsNone(first_wrong(PROGRAM, read_records(journal.text)[0]))


if __name__ == "__main__":
    unittest.main()
