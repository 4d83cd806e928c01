import copy
import random
import unittest

from flowreprise.states import State, state_of
from tests.helper import mutable_ids, told_of

ONE, TEXT = ("int", 1), ("text", "a")
FRESH = {
    "function": "f", "given": [ONE], "parent": None, "answers": [], "signals": [], "is_off": False, "end": None,
    "due": None, "attempt": 0, "since": None, "lost": None, "child": None, "is_sent": False}
BEGIN = ("begin", 1, "f", [ONE], None)


class TestEvents(unittest.TestCase):
    def check(self, events, moment, **more):
        """Checks the state behind events of the flow 1, by what is otherwise than at its beginning."""
        self.assertEqual(told_of(state_of([BEGIN, *events])), (moment, {1: {**FRESH, **more}}))

    def test_no_events(self):
        self.assertEqual(told_of(State()), (0, {}))
        self.assertEqual(told_of(state_of([])), (0, {}))

    def test_ticks(self):
        self.assertEqual(told_of(state_of([("tick", 5)])), (5, {}))
        self.assertEqual(told_of(state_of([("tick", 5), ("tick", 5), ("tick", 900)])), (900, {}))

    def test_beginnings(self):
        self.check([], 0)
        self.check([("tick", 3)], 3)
        self.assertEqual(told_of(state_of([("begin", 1, "g", [], None), ("begin", 2, "f", [ONE], None)])), (
            0, {1: {**FRESH, "function": "g", "given": []}, 2: FRESH}))

    def test_children(self):
        self.assertEqual(told_of(state_of([BEGIN, ("begin", 2, "g", [TEXT, ONE], 1), ("begin", 3, "f", [ONE], 2)])), (0, {
            1: {**FRESH, "child": 2}, 2: {**FRESH, "function": "g", "given": [TEXT, ONE], "parent": 1, "child": 3},
            3: {**FRESH, "parent": 2}}))

    def test_timers(self):
        self.check([("due", 1, 12)], 0, due=12)

    def test_attempts(self):
        self.check([("attempt", 1, 1)], 0, attempt=1, since=0)
        self.check([("tick", 4), ("attempt", 1, 1), ("tick", 6)], 6, attempt=1, since=4)
        self.check([("attempt", 1, 1), ("sent", 1)], 0, attempt=1, since=0, is_sent=True)
        self.check([("attempt", 1, 1), ("sent", 1), ("tick", 3), ("lost", 1, 6)], 3, attempt=1, since=3, is_sent=True,
                   lost=6)
        self.check([("attempt", 1, 1), ("lost", 1, 404)], 0, attempt=1, since=0, lost=404)
        self.check([("attempt", 1, 1), ("sent", 1), ("lost", 1, 404), ("tick", 2), ("attempt", 1, 2)], 2, attempt=2,
                   since=2)

    def test_signals(self):
        rows = [("signal", 1, "go", ONE), ("signal", 1, "stop", TEXT), ("signal", 1, "go", TEXT)]
        pairs = [("go", ONE), ("stop", TEXT), ("go", TEXT)]
        self.check(rows, 0, signals=pairs)
        self.check([*rows, ("answer", 1, ("ok", ONE), 0)], 0, signals=pairs[1:], answers=[("ok", ONE)])
        self.check([*rows, ("answer", 1, ("ok", TEXT), 1)], 0, signals=pairs[::2], answers=[("ok", TEXT)])
        self.check([*rows, ("answer", 1, ("ok", TEXT), 2)], 0, signals=pairs[:2], answers=[("ok", TEXT)])
        self.check([*rows, ("answer", 1, ("ok", TEXT), None)], 0, signals=pairs, answers=[("ok", TEXT)])

    def test_off_and_end(self):
        self.check([("off", 1)], 0, is_off=True)
        self.check([("off", 1), ("off", 1)], 0, is_off=True)
        self.check([("due", 1, 5), ("off", 1)], 0, is_off=True, due=5)
        for outcome in (("done", ONE), ("failed", 404), ("tired",)):
            self.check([("end", 1, outcome)], 0, end=outcome)
        self.check([("off", 1), ("answer", 1, ("failed", 5), None), ("end", 1, ("failed", 5))], 0, is_off=True,
                   answers=[("failed", 5)], end=("failed", 5))

    def test_answers_end_what_was_told_of_the_request(self):
        answer = ("answer", 1, ("failed", 404), None)
        for rows in (
                [("due", 1, 5)], [("attempt", 1, 1)], [("attempt", 1, 3), ("sent", 1)], [("attempt", 1, 1), ("lost", 1, 6)],
                [("attempt", 1, 1), ("sent", 1), ("lost", 1, 6), ("attempt", 1, 2), ("sent", 1)]):
            self.check([*rows, answer], 0, answers=[("failed", 404)])
        state = state_of([BEGIN, ("begin", 2, "f", [ONE], 1), answer])
        self.assertEqual(told_of(state), (0, {1: {**FRESH, "answers": [("failed", 404)]}, 2: {**FRESH, "parent": 1}}))
        self.check([answer, ("answer", 1, ("ok", ONE), None), ("due", 1, 3)], 0, due=3,
                   answers=[("failed", 404), ("ok", ONE)])

    def test_flows_of_their_own(self):
        state = state_of([BEGIN, ("begin", 2, "f", [ONE], None), ("due", 1, 5), ("signal", 2, "go", ONE), ("off", 1),
                          ("attempt", 2, 1), ("sent", 2)])
        self.assertEqual(told_of(state)[1], {
            1: {**FRESH, "due": 5, "is_off": True},
            2: {**FRESH, "signals": [("go", ONE)], "attempt": 1, "since": 0, "is_sent": True}})


class TestSharing(unittest.TestCase):
    def test_events_are_not_modified(self):
        events = [
            ("begin", 1, "f", [ONE], None), ("signal", 1, "go", ONE), ("begin", 2, "f", [ONE], 1), ("tick", 5),
            ("answer", 1, ("ok", ONE), 0), ("end", 2, ("done", ONE))]
        before = copy.deepcopy(events)
        state = state_of(events)
        self.assertEqual(events, before)
        for flow in state.flows.values():
            self.assertFalse(mutable_ids(list(vars(flow).values())) & mutable_ids(events))
        state.flows[1].given.append(ONE)
        self.assertEqual(events, before)

    def test_apply_is_what_state_of_does(self):
        for seed in range(100):
            rng = random.Random(seed)
            events = [BEGIN]
            for _ in range(rng.randrange(12)):
                number = rng.randrange(1, 1 + sum(event[0] == "begin" for event in events))
                state = state_of(events)
                rows = [("tick", state.moment + rng.randrange(3)), ("due", number, 4), ("attempt", number, 1),
                        ("sent", number), ("lost", number, 6), ("signal", number, "go", ONE), ("off", number),
                        ("answer", number, ("ok", ONE), 0 if state.flows[number].signals else None),
                        ("end", number, ("tired",)), ("begin", len(state.flows) + 1, "f", [], number)]
                events.append(rng.choice(rows))
            state, begun = State(), state_of([])
            for event in events:
                state.apply(event)
                self.assertIsNone(begun.apply(event))
            self.assertEqual(told_of(state), told_of(state_of(events)))
            self.assertEqual(told_of(begun), told_of(state))


if __name__ == "__main__":
    unittest.main()
