import copy
import random
import unittest

from flowreprise.states import State, state_of
from flowreprise.steps import next_event, outcome_of, random_for
from flowreprise.trees import read_program
from tests.helper import Maker, Meaning, has_kind, mutable_ids, random_value, told_of

ONE, NONE = ("int", 1), ("nothing",)
PROGRAM = read_program("""
    fn acts(n: int): int { return await act pay(n): int; }
    fn timers(n: int): int { do await timer(n); return 1; }
    fn signals(n: int): [int] { return await signal go: [int]; }
    fn flows(n: int): int { return await flow acts(n); }
    fn both(n: int): int { return now * 100 + random(n); }
    fn done(n: int): int { return n; }
    fn failed(n: int): int { fail n; }
    fn tired(n: int): int { while true { } return n; }
    fn nowfive(n: int): int { do now; do now; do now; do now; do now; return random(n); }""")


def flow_of(name, n=7, more=(), parent=None):
    """The state in which the flow 1 has begun with a function, behind more events."""
    return state_of([("begin", 1, name, [("int", n)], parent), *more])


def behind(state, *events):
    for event in events:
        state.apply(event)
    return state


def untouched_event(case, program, state, number):
    """The next event, when it has been checked that nothing was modified and nothing is shared."""
    before = copy.deepcopy((program, told_of(state)))
    event = next_event(program, state, number)
    case.assertEqual((program, told_of(state)), before)
    case.assertFalse(mutable_ids(event) & mutable_ids([program, told_of(state)]))
    return event


class Case(unittest.TestCase):
    def check(self, state, event, number=1, program=PROGRAM):
        self.assertEqual(untouched_event(self, program, state, number), event)

    def check_at(self, state, moments):
        """Checks the next event at moments, in order."""
        for moment, event in moments:
            self.check(behind(state, ("tick", moment)), event)


class TestRandomNumbers(unittest.TestCase):
    def test_by_hand(self):
        # (1 * 7919 + 0 + 12345) * 48271 is 978163544, below the modulus; by 16 that is 61135221.
        self.assertEqual(random_for(1, 0, 1000), 221)
        self.assertEqual(random_for(1, 0, 10), 1)
        self.assertEqual(random_for(1, 0, 1), 0)
        self.assertEqual(random_for(1, 0, 10 ** 12), 61135221)
        # (2 * 7919 + 3 * 104729 + 12345) * 48271 is 16526542270; without 7 times the modulus that is 1494156741,
        # and by 16 that is 93384796.
        self.assertEqual(random_for(2, 3, 100), 96)
        self.assertEqual(random_for(2, 3, 93384797), 93384796)

    def test_formula(self):
        for number in range(1, 21):
            for index in range(8):
                whole = (number * 7919 + index * 104729 + 12345) * 48271
                for most in (1, 2, 6, 1000, 10 ** 12):
                    self.assertEqual(random_for(number, index, most), whole % 2147483647 // 16 % most)


class TestOutcomes(Case):
    def test_outcomes(self):
        for name, n, outcome in (
                ("done", 7, ("done", ("int", 7))), ("failed", 404, ("failed", 404)), ("tired", 7, ("tired",)),
                ("acts", 7, ("waits", ("act", "pay", ("int", 7), "int"))), ("timers", 0, ("waits", ("timer", 0)))):
            state = flow_of(name, n)
            self.assertEqual(outcome_of(PROGRAM, state.flows[1]), outcome)
        state = behind(flow_of("acts"), ("answer", 1, ("ok", ONE), None))
        self.assertEqual(outcome_of(PROGRAM, state.flows[1]), ("done", ONE))

    def test_sixty_statements(self):
        for rows, outcome in ((59, ("done", ONE)), (60, ("tired",))):
            program = [("fn", "f", [], "int", [("do", ONE)] * rows + [("return", ONE)])]
            state = state_of([("begin", 1, "f", [], None)])
            self.assertEqual(outcome_of(program, state.flows[1]), outcome)
            self.check(state, ("end", 1, outcome), program=program)


class TestEnds(Case):
    def test_ends(self):
        for name, n, outcome in (("done", 7, ("done", ("int", 7))), ("failed", 404, ("failed", 404)),
                                 ("failed", 5, ("failed", 2)), ("tired", 7, ("tired",)), ("timers", -1, ("failed", 2))):
            self.check(flow_of(name, n), ("end", 1, outcome))
            self.check(behind(flow_of(name, n), ("end", 1, outcome)), None)
            self.check(behind(flow_of(name, n), ("off", 1)), ("end", 1, outcome))

    def test_behind_answers(self):
        state = behind(flow_of("acts"), ("attempt", 1, 1), ("answer", 1, ("failed", 300), None))
        self.check(state, ("end", 1, ("failed", 300)))
        self.check(behind(state, ("end", 1, ("failed", 300)), ("tick", 99)), None)


class TestMoments(Case):
    def test_now(self):
        for moment, told in ((0, 0), (5, 5), (10 ** 12, 10 ** 12), (10 ** 12 + 1, 10 ** 12), (10 ** 13, 10 ** 12)):
            state = behind(flow_of("both"), ("tick", moment))
            self.check(state, ("answer", 1, ("ok", ("int", told)), None))
            self.check(behind(state, ("off", 1)), ("answer", 1, ("ok", ("int", told)), None))

    def test_random(self):
        for number in (1, 2, 20):
            state = state_of([("begin", k, "both", [("int", 9)], None) for k in range(1, number + 1)])
            behind(state, ("answer", number, ("ok", ONE), None))
            event = ("answer", number, ("ok", ("int", random_for(number, 1, 9))), None)
            self.check(state, event, number)
            self.check(behind(state, ("off", number)), event, number)
        state = flow_of("nowfive", 1000, [("answer", 1, ("ok", ONE), None)] * 5)
        self.check(state, ("answer", 1, ("ok", ("int", random_for(1, 5, 1000))), None))

    def test_timers(self):
        for length in (0, 3):
            state = behind(flow_of("timers", length), ("tick", 4))
            self.check(state, ("due", 1, 4 + length))
            done = ("answer", 1, ("ok", NONE), None)
            behind(state, ("due", 1, 4 + length))
            if length:
                self.check_at(state, [(4, None), (4 + length - 1, None)])
            self.check_at(state, [(4 + length, done), (5 + length, done), (900, done)])
        state = behind(flow_of("timers", 3), ("tick", 4), ("off", 1))
        self.check(state, ("answer", 1, ("failed", 5), None))
        state = behind(flow_of("timers", 3), ("due", 1, 3), ("tick", 3), ("off", 1))
        self.check(state, ("answer", 1, ("failed", 5), None))


class TestSignals(Case):
    def test_signals(self):
        right, other = ("list", (ONE,)), ("list", ())
        for rows, wanted in (
                ([], None), ([("go", right)], (right, 0)), ([("stop", right)], None), ([("go", ONE)], None),
                ([("go", ("list", (("text", ""),)))], None), ([("go", other)], (other, 0)),
                ([("stop", right), ("go", ("bool", True)), ("go", right), ("go", other)], (right, 2)),
                ([("go", other), ("go", right)], (other, 0)), ([("go", ("text", "")), ("go", right)], (right, 1))):
            state = flow_of("signals", 7, [("signal", 1, *row) for row in rows])
            self.check(state, None if wanted is None else ("answer", 1, ("ok", wanted[0]), wanted[1]))
            self.check(behind(state, ("tick", 999)), None if wanted is None else ("answer", 1, ("ok", wanted[0]), wanted[1]))
            self.check(behind(state, ("off", 1)), ("answer", 1, ("failed", 5), None))

    def test_signals_of_other_flows(self):
        state = flow_of("signals", 7, [("begin", 2, "signals", [ONE], None), ("signal", 2, "go", ("list", ()))])
        self.check(state, None)
        self.check(state, ("answer", 2, ("ok", ("list", ())), 0), 2)


class TestChildren(Case):
    def test_beginning(self):
        self.check(flow_of("flows"), ("begin", 2, "acts", [("int", 7)], 1))
        self.check(behind(flow_of("flows"), ("off", 1)), ("answer", 1, ("failed", 5), None))

    def test_the_20th_flow(self):
        for many, event in ((18, ("begin", 19, "acts", [ONE], 1)), (19, ("begin", 20, "acts", [ONE], 1)),
                            (20, ("answer", 1, ("failed", 4), None)), (21, ("answer", 1, ("failed", 4), None))):
            rows = [("begin", k, "done", [ONE], None) for k in range(2, many + 1)]
            self.check(flow_of("flows", 1, rows), event)
            # Flows that have ended count, too.
            self.check(flow_of("flows", 1, rows + [("end", k, ("done", ONE)) for k in range(2, many)]), event)

    def test_ends_of_children(self):
        for end, answer in ((("done", ONE), ("ok", ONE)), (("failed", 404), ("failed", 404)), (("failed", 2), ("failed", 2)),
                            (("tired",), ("failed", 4))):
            state = behind(flow_of("flows"), ("begin", 2, "acts", [("int", 7)], 1))
            self.check(state, None)
            self.check(behind(state, ("tick", 999), ("off", 2)), None)
            behind(state, ("end", 2, end))
            self.check(state, ("answer", 1, answer, None))
            self.check(behind(state, ("off", 1)), ("answer", 1, ("failed", 5), None))

    def test_called_off_with_a_child(self):
        state = behind(flow_of("flows"), ("begin", 2, "acts", [("int", 7)], 1), ("off", 1))
        self.check(state, ("answer", 1, ("failed", 5), None))
        self.check(state, ("attempt", 2, 1), 2)


class TestActivities(Case):
    def test_three_attempts_that_take_too_long(self):
        state = behind(flow_of("acts"), ("tick", 3))
        self.check(state, ("attempt", 1, 1))
        behind(state, ("attempt", 1, 1), ("sent", 1))
        lost = ("lost", 1, 6)
        self.check_at(state, [(3, None), (12, None), (13, lost), (14, lost), (99, lost)])
        behind(state, ("tick", 13), lost)
        second = ("attempt", 1, 2)
        self.check_at(state, [(13, None), (14, None), (15, second), (16, second), (99, second)])
        behind(state, ("tick", 20), second)
        self.check_at(state, [(20, None), (29, None), (30, lost), (31, lost)])
        behind(state, ("tick", 30), lost)
        third = ("attempt", 1, 3)
        self.check_at(state, [(30, None), (33, None), (34, third), (35, third)])
        behind(state, ("tick", 40), third)
        self.check_at(state, [(40, None), (49, None), (50, lost)])
        behind(state, lost)
        self.check(state, ("answer", 1, ("failed", 6), None))

    def test_three_attempts_that_fail(self):
        state = flow_of("acts")
        for attempt, pause in ((1, 2), (2, 4)):
            self.check(state, ("attempt", 1, attempt))
            behind(state, ("attempt", 1, attempt))
            start = state.moment
            behind(state, ("tick", start + 1), ("lost", 1, 300 + attempt))
            later = ("attempt", 1, attempt + 1)
            self.check_at(state, [(start + 1, None), (start + pause, None), (start + pause + 1, later)])
        behind(state, ("attempt", 1, 3), ("lost", 1, 303))
        self.check(state, ("answer", 1, ("failed", 303), None))
        self.check(behind(state, ("tick", 999)), ("answer", 1, ("failed", 303), None))

    def test_called_off(self):
        for rows in ([], [("attempt", 1, 1)], [("attempt", 1, 1), ("sent", 1)], [("attempt", 1, 1), ("lost", 1, 6)],
                     [("attempt", 1, 3), ("lost", 1, 404)]):
            self.check(flow_of("acts", 7, [*rows, ("off", 1)]), ("answer", 1, ("failed", 5), None))

    def test_sent_or_not_does_not_matter(self):
        for rows in ([], [("sent", 1)]):
            state = flow_of("acts", 7, [("attempt", 1, 1), *rows])
            self.check_at(state, [(9, None), (10, ("lost", 1, 6))])


def event_by_words(program, state, number, means=Meaning):
    """The next event by the words of point 76."""
    flow = state.flows[number]
    if flow.end:
        return None
    given = list(flow.answers)
    meaning = means(program, lambda request: given.pop(0) if given else None, 60)
    outcome = meaning.run(flow.function, flow.given)
    if outcome[0] != "waits":
        return ("end", number, outcome)
    request, moment = outcome[1], state.moment
    ok = lambda value, place=None: ("answer", number, ("ok", value), place)
    failed = lambda code: ("answer", number, ("failed", code), None)
    word = request[0]
    if word == "now":
        return ok(("int", moment if moment < 10 ** 12 else 10 ** 12))
    if word == "random":
        whole = (number * 7919 + len(flow.answers) * 104729 + 12345) * 48271
        return ok(("int", whole % 2147483647 // 16 % request[1]))
    if flow.is_off:
        return failed(5)
    if word == "timer":
        if flow.due is None:
            return ("due", number, moment + request[1])
        return ok(NONE) if not moment < flow.due else None
    if word == "signal":
        for place, (name, value) in enumerate(flow.signals):
            if name == request[1] and has_kind(value, request[2]):
                return ok(value, place)
        return None
    if word == "flow":
        if flow.child is None:
            return failed(4) if len(state.flows) >= 20 else (
                "begin", max(state.flows) + 1, request[1], list(request[2]), number)
        end = state.flows[flow.child].end
        return {None: lambda: None, "done": lambda: ok(end[1]), "failed": lambda: failed(end[1]),
                "tired": lambda: failed(4)}[end and end[0]]()
    if flow.attempt == 0:
        return ("attempt", number, 1)
    if flow.lost is None:
        return ("lost", number, 6) if moment >= flow.since + 10 else None
    if flow.attempt == 3:
        return failed(flow.lost)
    return ("attempt", number, flow.attempt + 1) if moment >= flow.since + 2 * flow.attempt else None


class TestRandom(unittest.TestCase):
    def test_random_flows(self):
        words = {}
        for seed in range(300):
            rng = random.Random(seed)
            program = Maker(rng).program()
            state = State()
            for _ in range(80):
                going = [number for number, flow in state.flows.items() if flow.end is None]
                if rng.random() < 0.1 and len(state.flows) < 22 or not state.flows:
                    _, name, params, _, _ = rng.choice(program)
                    values = [random_value(rng, kind, True) for _, kind in params]
                    state.apply(("begin", len(state.flows) + 1, name, values, None))
                elif rng.random() < 0.3 or not going:
                    state.apply(("tick", state.moment + rng.choice([0, 1, 2, 5, 10])))
                elif rng.random() < 0.15:
                    number = rng.choice(going)
                    kind = rng.choice(["int", "bool", "text", ("list", "int")])
                    state.apply(rng.choice([
                        ("off", number), ("signal", number, "go", random_value(rng, kind, True)),
                        ("signal", number, "stop", random_value(rng, kind, True))]))
                else:
                    number = rng.choice(going)
                    event = untouched_event(self, program, state, number)
                    self.assertEqual(event, event_by_words(program, state, number))
                    if event is not None:
                        words[event[0]] = words.get(event[0], 0) + 1
                        state.apply(event)
                    elif state.flows[number].attempt and state.flows[number].lost is None and rng.random() < 0.5:
                        state.apply(("lost", number, 404))
        for word, least in (("end", 1000), ("answer", 400), ("due", 20), ("attempt", 300), ("lost", 100), ("begin", 100)):
            self.assertGreater(words.get(word, 0), least, words)


if __name__ == "__main__":
    unittest.main()
