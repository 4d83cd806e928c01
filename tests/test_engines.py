import copy
import random
import unittest

from flowreprise.engines import Engine
from flowreprise.journals import Journal, read_records
from flowreprise.states import state_of
from flowreprise.steps import next_event, outcome_of
from flowreprise.trees import read_program
from tests.helper import Maker, mutable_ids, random_value, told_of

ONE, NONE = ("int", 1), ("nothing",)
PROGRAM = read_program("""
    fn acts(n: int): int { return await act pay(n): int; }
    fn twice(n: int): int { let a = await act pay(n): int; return a + await act send(a): int; }
    fn timers(n: int): int { do await timer(n); return now; }
    fn signals(n: int): [int] { return await signal go: [int]; }
    fn flows(n: int): int { return await flow acts(n); }
    fn deep(n: int): int { return await flow flows(n) + 1; }
    fn hold(n: int): int { try { return await flow deep(n); } catch c { return await act pay(c): int; } }
    fn done(n: int): int { return n; }
    fn lists(r: [[int]], b: bool): int { return size(r); }
    fn mixed(n: int): int {
      let a = await act pay(n): int;
      do await timer(3);
      try { set a = a + await flow acts(a); } catch c { set a = c; }
      return a + random(5) + now;
    }""")


class Recorder(Journal):
    """A journal that keeps what it was behind each record and each time it was made safe."""

    def __init__(self):
        Journal.__init__(self)
        self.moments = []
        self.rows = []

    def append(self, data):
        Journal.append(self, data)
        self.rows.append(copy.deepcopy(data))
        self.moments.append((self.text, self.safe))

    def sync(self):
        Journal.sync(self)
        self.moments.append((self.text, self.safe))


class Case(unittest.TestCase):
    def engine(self, *begins, program=PROGRAM):
        engine = Engine(program, Recorder())
        for k, (name, *values) in enumerate(begins):
            self.assertEqual(engine.begin(name, [("int", n) for n in values]), k + 1)
        return engine

    def events(self, engine):
        return read_records(engine.journal.text)[0]

    def check_state(self, engine):
        self.assertEqual(told_of(engine.state), told_of(state_of(self.events(engine))))

    def check_new(self, engine, start, *events):
        """Checks the events behind so many ones, and the state."""
        self.assertEqual(self.events(engine)[start:], list(events))
        self.check_state(engine)

    def check_nothing(self, engine, told, function, *arguments):
        """Checks that a deed is answered so and has no effect."""
        before = engine.journal.text, engine.journal.safe, copy.deepcopy(told_of(engine.state))
        self.assertIs(function(*arguments), told)
        self.assertEqual((engine.journal.text, engine.journal.safe, told_of(engine.state)), before)


class TestBeginning(Case):
    def test_new_engine(self):
        journal = Journal()
        engine = Engine(PROGRAM, journal)
        self.assertIs(engine.journal, journal)
        self.assertIs(engine.program, PROGRAM)
        self.assertEqual(told_of(engine.state), (0, {}))
        self.assertEqual(engine.turn(), [])

    def test_flows(self):
        engine = self.engine()
        self.assertEqual(engine.begin("acts", [ONE]), 1)
        self.assertEqual(engine.begin("lists", [("list", ()), ("bool", True)]), 2)
        self.check_new(engine, 0, ("begin", 1, "acts", [ONE], None),
                       ("begin", 2, "lists", [("list", ()), ("bool", True)], None))
        self.assertEqual(engine.journal.safe, 0)

    def test_flows_that_do_not_begin(self):
        engine = self.engine(("acts", 1))
        for name, values in (
                ("other", []), ("acts", []), ("acts", [ONE, ONE]), ("acts", [("text", "")]),
                ("acts", [("int", 10 ** 12 + 1)]), ("lists", [("list", (ONE,)), ("bool", True)]),
                ("lists", [("list", (("list", (("bool", True),)),)), ("bool", True)]), ("lists", [("list", ()), ONE])):
            self.check_nothing(engine, None, engine.begin, name, values)
        self.assertEqual(engine.begin("lists", [("list", (("list", ()),)), ("bool", True)]), 2)

    def test_twenty_flows(self):
        engine = self.engine(*[("done", k) for k in range(20)])
        self.check_nothing(engine, None, engine.begin, "done", [ONE])
        engine.turn()
        self.check_nothing(engine, None, engine.begin, "done", [ONE])

    def test_values_are_not_shared(self):
        engine, values = self.engine(), [ONE]
        engine.begin("acts", values)
        self.assertFalse(mutable_ids(values) & mutable_ids(list(vars(engine.state.flows[1]).values())))
        values.append(ONE)
        self.check_new(engine, 0, ("begin", 1, "acts", [ONE], None))


class TestDeeds(Case):
    def test_ticks(self):
        engine = self.engine()
        for length, moment in ((5, 5), (0, 5), (1, 6)):
            self.assertIsNone(engine.tick(length))
            self.assertEqual(engine.state.moment, moment)
        self.check_new(engine, 0, ("tick", 5), ("tick", 5), ("tick", 6))

    def test_signals(self):
        engine = self.engine(("signals", 1), ("done", 1))
        self.assertIs(engine.signal(1, "go", ONE), True)
        self.assertIs(engine.signal(1, "other", ("list", ())), True)
        self.assertIs(engine.signal(2, "go", NONE), True)
        self.check_new(engine, 2, ("signal", 1, "go", ONE), ("signal", 1, "other", ("list", ())), ("signal", 2, "go", NONE))
        engine.turn()
        self.check_nothing(engine, False, engine.signal, 2, "go", ONE)
        self.check_nothing(engine, False, engine.signal, 3, "go", ONE)
        self.check_nothing(engine, False, engine.signal, 0, "go", ONE)
        self.assertIs(engine.signal(1, "go", ("list", (ONE,))), True)
        engine.turn()
        self.assertEqual(engine.state.flows[1].end, ("done", ("list", (ONE,))))
        self.assertEqual(engine.state.flows[1].signals, [("go", ONE), ("other", ("list", ()))])

    def test_calling_off(self):
        engine = self.engine(("acts", 1), ("done", 1))
        for start in (2, 3):
            self.assertIs(engine.call_off(1), True)
            self.check_new(engine, start, ("off", 1))
        engine.turn()
        self.assertEqual(engine.state.flows[1].end, ("failed", 5))
        for number in (0, 1, 2, 3):
            self.check_nothing(engine, False, engine.call_off, number)

    def test_calling_off_children_and_their_children(self):
        engine = self.engine(("deep", 1), ("deep", 2), ("acts", 3))
        engine.turn()
        self.assertEqual({k: flow.parent for k, flow in engine.state.flows.items()}, {
            1: None, 2: None, 3: None, 4: 1, 5: 2, 6: 4, 7: 5})
        start = len(self.events(engine))
        self.assertIs(engine.call_off(1), True)
        self.check_new(engine, start, ("off", 1), ("off", 4), ("off", 6))
        self.assertIs(engine.call_off(5), True)
        self.check_new(engine, start + 3, ("off", 5), ("off", 7))
        self.assertIs(engine.call_off(4), True)
        self.check_new(engine, start + 5, ("off", 4), ("off", 6))
        engine.turn()
        self.assertEqual([engine.state.flows[k].end for k in (1, 2, 3, 4, 5, 6, 7)], [
            ("failed", 5), ("failed", 5), None, ("failed", 5), ("failed", 5), ("failed", 5), ("failed", 5)])

    def test_calling_off_behind_children_that_have_ended(self):
        # The child has ended, so its own child, which goes on, is not called off with its grandparent.
        program = read_program("""
            fn top(n: int): int { try { do await flow mid(n); } catch c { } return await flow mid(n); }
            fn mid(n: int): int { try { return await flow low(n); } catch c { return 3; } }
            fn low(n: int): int { try { return await act pay(n): int; } catch c { return await act send(n): int; } }""")
        # Only the second flow is called off and ends; the third one waits with its task.
        engine = self.engine(("top", 1), program=program)
        engine.turn()
        engine.state.apply(("off", 2))
        engine.journal.append(("off", 2))
        engine.turn()
        self.assertEqual([engine.state.flows[k].end for k in (1, 2, 3)], [None, ("done", ("int", 3)), None])
        start = len(self.events(engine))
        self.assertIs(engine.call_off(1), True)
        children = sorted(k for k, flow in engine.state.flows.items() if flow.parent in (1, 4) and flow.end is None)
        self.check_new(engine, start, ("off", 1), *[("off", k) for k in children])
        self.assertNotIn(3, children)
        self.assertEqual(children, [4, 5])

    def test_children_of_earlier_requests_are_called_off(self):
        program = read_program("""
            fn top(n: int): int { try { do await flow low(n); } catch c { } return await act pay(n): int; }
            fn low(n: int): int { return await act send(n): int; }""")
        engine = self.engine(("top", 1), program=program)
        engine.turn()
        engine.state.apply(("answer", 1, ("failed", 300), None))
        engine.journal.append(("answer", 1, ("failed", 300), None))
        engine.turn()
        start = len(self.events(engine))
        self.assertIs(engine.call_off(1), True)
        self.check_new(engine, start, ("off", 1), ("off", 2))


class TestTasks(Case):
    TASK = (1, 0, 1, "pay", ("int", 7))

    def test_values(self):
        engine = self.engine(("acts", 7))
        self.assertEqual(engine.turn(), [self.TASK])
        start = len(self.events(engine))
        for answer in (("ok", NONE), ("ok", ("int", 10 ** 12 + 1)), ("ok", ("list", ())), ("failed", 99), ("failed", 1000),
                       ("failed", 5), ("failed", -404)):
            self.check_nothing(engine, False, engine.bring, self.TASK, answer)
        self.assertIs(engine.bring(self.TASK, ("ok", ONE)), True)
        self.check_new(engine, start, ("answer", 1, ("ok", ONE), None))
        self.check_nothing(engine, False, engine.bring, self.TASK, ("ok", ONE))
        engine.turn()
        self.assertEqual(engine.state.flows[1].end, ("done", ONE))
        self.check_nothing(engine, False, engine.bring, self.TASK, ("ok", ONE))

    def test_failures(self):
        for code in (100, 404, 999):
            engine = self.engine(("acts", 7))
            engine.turn()
            start = len(self.events(engine))
            self.assertIs(engine.bring(self.TASK, ("failed", code)), True)
            self.check_new(engine, start, ("lost", 1, code))
            for answer in (("failed", code), ("ok", ONE)):
                self.check_nothing(engine, False, engine.bring, self.TASK, answer)
            self.assertEqual(engine.turn(), [])
            engine.tick(2)
            self.assertEqual(engine.turn(), [(1, 0, 2, "pay", ("int", 7))])
            self.check_nothing(engine, False, engine.bring, self.TASK, ("ok", ONE))
            self.assertIs(engine.bring((1, 0, 2, "pay", ("int", 7)), ("ok", ONE)), True)

    def test_other_tasks(self):
        engine = self.engine(("twice", 7), ("timers", 9), ("done", 1))
        self.check_nothing(engine, False, engine.bring, self.TASK, ("ok", ONE))
        self.check_nothing(engine, False, engine.bring, (1, 0, 0, "pay", ("int", 7)), ("ok", ONE))
        self.assertEqual(engine.turn(), [self.TASK])
        for task in ((1, 1, 1, "pay", ("int", 7)), (1, 0, 2, "pay", ("int", 7)), (1, 0, 0, "pay", ("int", 7)),
                     (2, 0, 0, "pay", ("int", 7)), (2, 0, 1, "pay", ("int", 7)), (3, 0, 1, "pay", ("int", 7)),
                     (4, 0, 1, "pay", ("int", 7)), (0, 0, 1, "pay", ("int", 7))):
            for answer in (("ok", ONE), ("failed", 404)):
                self.check_nothing(engine, False, engine.bring, task, answer)
        engine.bring(self.TASK, ("ok", ONE))
        self.assertEqual(engine.turn(), [(1, 1, 1, "send", ONE)])
        self.check_nothing(engine, False, engine.bring, self.TASK, ("ok", ONE))

    def test_lost_by_waiting(self):
        engine = self.engine(("acts", 7))
        engine.turn()
        engine.tick(10)
        # Until a turn finds it lost, the answer still counts.
        self.assertEqual(engine.turn(), [])
        self.check_nothing(engine, False, engine.bring, self.TASK, ("ok", ONE))
        engine = self.engine(("acts", 7))
        engine.turn()
        engine.tick(10)
        self.assertIs(engine.bring(self.TASK, ("ok", ONE)), True)

    def test_called_off(self):
        engine = self.engine(("acts", 7))
        engine.turn()
        engine.call_off(1)
        self.assertIs(engine.bring(self.TASK, ("ok", ONE)), True)
        engine.turn()
        self.assertEqual(engine.state.flows[1].end, ("done", ONE))

    def test_before_the_task_goes_out(self):
        # A task need not have gone out for its answer to count.
        engine = self.engine(("acts", 7))
        engine.journal.append(("attempt", 1, 1))
        engine.state.apply(("attempt", 1, 1))
        self.assertIs(engine.bring(self.TASK, ("ok", ONE)), True)


class TestTurns(Case):
    def test_passes(self):
        engine = self.engine(("deep", 7), ("acts", 5), ("done", 3))
        self.assertEqual(engine.turn(), [(2, 0, 1, "pay", ("int", 5)), (5, 0, 1, "pay", ("int", 7))])
        # The children that begin in a pass go on in the next one.
        self.check_new(
            engine, 3, ("begin", 4, "flows", [("int", 7)], 1), ("attempt", 2, 1), ("end", 3, ("done", ("int", 3))),
            ("begin", 5, "acts", [("int", 7)], 4), ("attempt", 5, 1), ("sent", 2), ("sent", 5))
        engine.bring((5, 0, 1, "pay", ("int", 7)), ("ok", ONE))
        self.assertEqual(engine.turn(), [])
        # The parents stand before their children, so each of them goes on one pass later.
        self.check_new(
            engine, 11, ("end", 5, ("done", ONE)), ("answer", 4, ("ok", ONE), None), ("end", 4, ("done", ONE)),
            ("answer", 1, ("ok", ONE), None), ("end", 1, ("done", ("int", 2))))

    def test_each_flow_goes_on_as_long_as_it_can(self):
        engine = self.engine(("timers", 0), ("timers", 5), ("done", 1))
        engine.turn()
        self.check_new(
            engine, 3, ("due", 1, 0), ("answer", 1, ("ok", NONE), None), ("answer", 1, ("ok", ("int", 0)), None),
            ("end", 1, ("done", ("int", 0))), ("due", 2, 5), ("end", 3, ("done", ONE)))

    def test_making_safe(self):
        engine = self.engine(("acts", 7), ("done", 1))
        self.assertEqual(engine.journal.safe, 0)
        tasks = engine.turn()
        self.assertEqual(len(tasks), 1)
        # The "sent" event is not safe yet.
        safe = engine.journal.text[:engine.journal.safe]
        self.assertEqual(read_records(safe)[0], self.events(engine)[:-1])
        self.assertEqual(self.events(engine)[-1], ("sent", 1))
        self.assertEqual(engine.turn(), [])
        self.assertEqual(engine.journal.safe, len(engine.journal.text))
        engine.tick(1)
        engine.turn()
        self.assertEqual(engine.journal.safe, len(engine.journal.text))

    def test_tasks_go_out_once_in_a_life_and_again_in_a_later_one(self):
        engine = self.engine(("acts", 7), ("acts", 8))
        tasks = [(1, 0, 1, "pay", ("int", 7)), (2, 0, 1, "pay", ("int", 8))]
        self.assertEqual(engine.turn(), tasks)
        self.assertEqual(engine.turn(), [])
        engine.tick(9)
        self.assertEqual(engine.turn(), [])
        engine.tick(1)
        engine.turn()
        engine.tick(2)
        self.assertEqual(engine.turn(), [(1, 0, 2, "pay", ("int", 7)), (2, 0, 2, "pay", ("int", 8))])
        for kept, again in ((0, tasks), (13, tasks), (10 ** 6, [])):
            engine = self.engine(("acts", 7), ("acts", 8))
            engine.turn()
            engine.journal.fall(kept)
            other = Engine(PROGRAM, engine.journal)
            self.assertEqual(other.turn(), again)
            self.assertEqual(other.turn(), [])
        # The one whose "sent" event was kept does not go out again.
        engine = self.engine(("acts", 7), ("acts", 8))
        engine.turn()
        engine.journal.fall(len(engine.journal.text) - engine.journal.safe - 1)
        self.assertEqual(Engine(PROGRAM, engine.journal).turn(), tasks[1:])

    def test_tasks_that_do_not_go_out(self):
        for rows in ([("off", 1)], [("lost", 1, 404)], [("sent", 1)], [("answer", 1, ("ok", ONE), None)]):
            journal = Journal()
            for event in [("begin", 1, "acts", [ONE], None), ("attempt", 1, 1), *rows]:
                journal.append(event)
            self.assertEqual(Engine(PROGRAM, journal).turn(), [])
        # What goes out belongs to the flow that waits; the child that was called off alone stays.
        engine = self.engine(("hold", 7))
        engine.turn()
        engine.call_off(2)
        self.assertEqual(engine.turn(), [(1, 1, 1, "pay", ("int", 5))])

    def test_called_off_before_the_turn(self):
        engine = self.engine(("hold", 7))
        engine.call_off(1)
        self.assertEqual(engine.turn(), [])
        self.assertEqual(engine.state.flows[1].end, ("failed", 5))


STORY = [
    ("begin", "mixed", 2), ("begin", "deep", 5), ("turn",), ("bring", 0, ("ok", ("int", 4))), ("turn",), ("tick", 3),
    ("turn",), ("bring", 1, ("failed", 404)), ("tick", 2), ("turn",), ("bring", 2, ("ok", ONE)), ("bring", 3, ("ok", ONE)),
    ("turn",), ("begin", "hold", 1), ("turn",), ("off", 2), ("off", 6), ("turn",), ("signal", 1, "go", ONE), ("turn",)]


def perform(engine, deed, tasks):
    """Performs a deed, and puts the tasks that go out behind the others."""
    if deed[0] == "begin":
        engine.begin(deed[1], [("int", n) for n in deed[2:]])
    elif deed[0] == "turn":
        tasks.extend(engine.turn())
    elif deed[0] == "tick":
        engine.tick(deed[1])
    elif deed[0] == "signal":
        engine.signal(*deed[1:])
    elif deed[0] == "off":
        engine.call_off(deed[1])
    elif deed[1] < len(tasks):
        engine.bring(tasks[deed[1]], deed[2])


def attempts_in(events):
    """The numbers of the flows, of the answers and of the attempts that events tell of."""
    state, found = state_of([]), {}
    for event in events:
        if event[0] == "attempt":
            found[(event[1], len(state.flows[event[1]].answers), event[2])] = True
        state.apply(event)
    return found


class TestPowerFailures(Case):
    def check_up(self, program, text, safe, kept, rows, tasks):
        """Checks an engine that comes up behind a power failure, and its first tasks."""
        journal = Journal()
        journal.text, journal.safe = text, safe
        journal.fall(kept)
        engine = Engine(program, journal)
        events = self.events(engine)
        self.assertEqual(events, rows[:len(events)])
        self.assertGreaterEqual(len(events), len(read_records(text[:safe])[0]))
        self.assertEqual(told_of(engine.state), told_of(state_of(events)))
        self.check_meaning(engine)
        known = attempts_in(events)
        for task in tasks:
            self.assertIn(task[:3], known)
        over = self.over(events)
        for task in engine.turn():
            self.assertNotIn(task[:3], over)
            self.assertIn(task[:3], attempts_in(read_records(journal.text[:journal.safe])[0]))
        self.check_meaning(engine)
        return engine

    def over(self, events):
        """The attempts that were sent or lost, or whose requests were answered."""
        state, found = state_of([]), {}
        for event in events:
            if event[0] in ("sent", "lost", "answer"):
                flow = state.flows[event[1]]
                found[(event[1], len(flow.answers), flow.attempt)] = True
            state.apply(event)
        return found

    def check_meaning(self, engine):
        """Checks that flows that have ended have ended as their meaning does."""
        for flow in engine.state.flows.values():
            outcome = outcome_of(engine.program, flow)
            self.assertEqual(flow.end, None if outcome[0] == "waits" else flow.end)
            if flow.end is not None:
                self.assertEqual(flow.end, outcome)

    def test_each_event_and_each_number_of_characters(self):
        engine, tasks, rows = Engine(PROGRAM, Recorder()), [], []
        for deed in STORY:
            before, start = list(tasks), len(engine.journal.moments)
            perform(engine, deed, tasks)
            for text, safe in engine.journal.moments[start:]:
                # The tasks of a turn go out when it has made the journal safe.
                is_out = deed[0] == "turn" and safe == engine.journal.safe
                rows.append((text, safe, list(tasks) if is_out else before))
        self.assertEqual(len(tasks), 5)
        self.assertEqual(engine.journal.rows, self.events(engine))
        for text, safe, gone in rows:
            for kept in range(len(text) - safe + 2):
                self.check_up(PROGRAM, text, safe, kept, engine.journal.rows, gone)
        self.check_meaning(engine)

    def test_tasks_go_out_only_when_their_attempts_are_safe(self):
        for many in range(1, len(STORY) + 1):
            engine, tasks = Engine(PROGRAM, Recorder()), []
            for deed in STORY[:many]:
                perform(engine, deed, tasks)
            safe = read_records(engine.journal.text[:engine.journal.safe])[0]
            known = attempts_in(safe)
            for task in tasks:
                self.assertIn(task[:3], known)
            self.assertEqual(len({task[:3] for task in tasks}), len(tasks))

    def test_random_stories(self):
        lives = 0
        for seed in range(120):
            rng = random.Random(seed)
            program = Maker(rng).program() if seed % 2 else PROGRAM
            engine, tasks, mine = Engine(program, Recorder()), [], []
            for _ in range(40):
                if rng.random() < 0.15:
                    lives += 1
                    kept = rng.choice([0, 10 ** 6, rng.randrange(1 + len(engine.journal.text) - engine.journal.safe)])
                    text, safe, rows = engine.journal.text, engine.journal.safe, self.events(engine)
                    engine = self.check_up(program, text, safe, kept, rows, tasks)
                    mine = [task for task in self.sent(engine)]
                    tasks += mine
                    continue
                before = len(tasks)
                perform(engine, self.random_deed(rng, program, engine, tasks), tasks)
                for task in tasks[before:]:
                    self.assertNotIn(task, mine)
                mine += tasks[before:]
                self.check_state(engine)
                self.check_meaning(engine)
        self.assertGreater(lives, 300)

    def sent(self, engine):
        """The tasks that have gone out in the first turn of a life."""
        state, found = state_of([]), []
        text, safe = engine.journal.text, engine.journal.safe
        for event in read_records(text[:safe])[0]:
            state.apply(event)
        for event in read_records(text[safe:])[0]:
            _, (_, name, value, _) = outcome_of(engine.program, state.flows[event[1]])
            flow = state.flows[event[1]]
            found.append((event[1], len(flow.answers), flow.attempt, name, value))
        return found

    def random_deed(self, rng, program, engine, tasks):
        way = rng.random()
        if way < 0.2 or not engine.state.flows:
            _, name, params, _, _ = rng.choice(program)
            values = [random_value(rng, kind, True) for _, kind in params]
            engine.begin(name, values)
            return ("tick", 0)
        if way < 0.45:
            return ("turn",)
        if way < 0.6:
            return ("tick", rng.choice([0, 1, 2, 4, 10]))
        number = rng.randrange(len(engine.state.flows) + 2)
        if way < 0.65:
            return ("off", number)
        if way < 0.7:
            return ("signal", number, rng.choice(["go", "stop"]), random_value(rng, rng.choice(["int", "text"]), True))
        answer = rng.choice([("ok", random_value(rng, rng.choice(["int", "int", "text", "bool"]), True)), ("failed", 404)])
        return ("bring", rng.randrange(len(tasks) + 1), answer)


class TestOrder(Case):
    def test_each_event_is_written_before_it_counts(self):
        """When an event is written, the state does not know it yet."""
        case = self

        class Watching(Journal):
            def append(self, data):
                if watched:
                    case.assertEqual(told_of(watched[0].state), told_of(state_of(read_records(self.text)[0])))
                Journal.append(self, data)

        watched = []
        watched.append(Engine(PROGRAM, Watching()))
        tasks = []
        for deed in STORY:
            perform(watched[0], deed, tasks)
        self.check_state(watched[0])


class TestEnding(Case):
    def test_flows_end(self):
        """If tasks are answered and time passes, each flow ends that does not wait for a signal."""
        kinds = {"done": 0, "failed": 0, "tired": 0}
        waiting = 0
        for seed in range(200):
            rng = random.Random(seed)
            program = Maker(rng).program()
            engine = Engine(program, Recorder())
            for _ in range(rng.randrange(1, 5)):
                _, name, params, _, _ = rng.choice(program)
                engine.begin(name, [random_value(rng, kind, True) for _, kind in params])
            tasks = []
            for _ in range(60):
                tasks += engine.turn()
                if rng.random() < 0.1:
                    engine.journal.fall(rng.randrange(20))
                    engine = Engine(program, engine.journal)
                    continue
                for task in tasks:
                    flow = engine.state.flows.get(task[0])
                    if flow is not None and flow.attempt and flow.end is None:
                        request = outcome_of(program, flow)[1]
                        engine.bring(task, ("ok", random_value(rng, request[3], True)))
                engine.tick(rng.choice([10, 10 ** 12]))
            engine.turn()
            for number, flow in engine.state.flows.items():
                if flow.end is not None:
                    kinds[flow.end[0]] += 1
                elif self.may_end(engine, number):
                    self.fail(f"the flow {number} of the seed {seed} has not ended")
                else:
                    waiting += 1
                self.assertIsNone(next_event(program, engine.state, number))
        self.assertGreater(min(kinds.values()), 5)
        self.assertGreater(waiting, 30)

    def may_end(self, engine, number):
        """Whether a flow waits neither for a signal, nor for a child that does."""
        flow = engine.state.flows[number]
        request = outcome_of(engine.program, flow)[1]
        return request[0] != "signal" and (request[0] != "flow" or self.may_end(engine, flow.child))


if __name__ == "__main__":
    unittest.main()
