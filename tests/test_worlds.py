import copy
import random
import unittest

from flowreprise.engines import Engine
from flowreprise.journals import Journal, read_records
from flowreprise.judging import first_wrong, tasks_right
from flowreprise.meaning import run
from flowreprise.states import state_of
from flowreprise.steps import next_event, outcome_of
from flowreprise.trees import read_program
from flowreprise.worlds import World
from tests.helper import Maker, check_untouched, deed_for, random_value, told_of, wanted_kind
from tests.test_steps import event_by_words

ONE, NONE = ("int", 1), ("nothing",)
DOWN = ("down",)
PROGRAM = read_program("""
    fn acts(n: int): int { return await act pay(n): int; }
    fn timers(n: int): int { do await timer(n); return now; }
    fn signals(n: int): [int] { return await signal go: [int]; }
    fn flows(n: int): int { return await flow acts(n); }
    fn deep(n: int): int { let a = await flow flows(n); return a + await flow acts(a); }
    fn done(n: int): int { return n; }
    fn caught(n: int): int {
      let k = 0;
      while k < 3 {
        set k = k + 1;
        try { do await act pay(k): text; do await flow deep(k); } catch c { do await timer(c - c + 3); }
      }
      return random(9) + k;
    }""")


def state_by_words(events):
    """The moment and the attributes of all flows behind events, by the words of point 75."""
    moment, flows = 0, {}
    over = {"due": None, "attempt": 0, "since": None, "lost": None, "child": None, "is_sent": False}
    for event in events:
        if event[0] == "tick":
            moment = event[1]
            continue
        if event[0] == "begin":
            _, number, name, values, parent = event
            flows[number] = {
                "function": name, "given": list(values), "parent": parent, "answers": [], "signals": [], "is_off": False,
                "end": None, **over}
            if parent is not None:
                flows[parent]["child"] = number
            continue
        flow = flows[event[1]]
        flow.update({
            "due": lambda: {"due": event[2]}, "sent": lambda: {"is_sent": True}, "off": lambda: {"is_off": True},
            "attempt": lambda: {"attempt": event[2], "since": moment, "lost": None, "is_sent": False},
            "lost": lambda: {"lost": event[2], "since": moment}, "end": lambda: {"end": event[2]},
            "signal": lambda: {"signals": [*flow["signals"], (event[2], event[3])]},
            "answer": lambda: {"answers": [*flow["answers"], event[2]], **over, "signals": [
                row for k, row in enumerate(flow["signals"]) if k != event[3]]}}[event[0]]())
    return moment, flows


class Case(unittest.TestCase):
    def events(self, world):
        return read_records(world.journal.text)[0]

    def check_state(self, world):
        """Checks the state of the engine, and the history."""
        events = self.events(world)
        if world.engine is not None:
            self.assertEqual(told_of(world.engine.state), told_of(state_of(events)))
            for number, flow in world.engine.state.flows.items():
                if flow.end is not None:
                    self.assertEqual(flow.end, outcome_of(world.program, flow))
                self.assertEqual(next_event(world.program, world.engine.state, number),
                                 event_by_words(world.program, world.engine.state, number))
        self.assertIsNone(first_wrong(world.program, events))
        self.assertTrue(tasks_right(world.journal.text[:world.journal.safe], world.tasks))

    def perform(self, world, deed):
        return check_untouched(self, world.perform, deed)

    def check(self, world, *rows):
        """Performs deeds, and checks their answers."""
        for deed, answer in rows:
            self.assertEqual(self.perform(world, deed), answer, deed)
            self.check_state(world)


class TestExample(unittest.TestCase):
    def test_example(self):
        program = [("fn", "main", [("x", "int")], "int", [("return", ("await", "act", "pay", ("var", "x"), "int"))])]
        world = World(program)
        self.assertEqual(
            [world.perform(deed) for deed in [("begin", "main", [("int", 5)]), ("turn",), ("crash", 0), ("open",), ("turn",)]],
            [("flow", 1), ("tasks", [(1, 0, 1, "pay", ("int", 5))]), ("down",), ("up",),
             ("tasks", [(1, 0, 1, "pay", ("int", 5))])])
        self.assertEqual(
            (world.perform(("bring", 0, ("ok", ("int", 7)))), world.perform(("turn",)), world.perform(("end", 1))),
            (("ok", True), ("tasks", []), ("end", ("done", ("int", 7)))))


class TestDeeds(Case):
    def test_new_world(self):
        world = World(PROGRAM)
        self.assertEqual((world.program, world.journal.text, world.tasks, world.life), (PROGRAM, "", [], 1))
        self.assertIsInstance(world.journal, Journal)
        self.assertIsInstance(world.engine, Engine)
        self.assertIs(world.engine.journal, world.journal)

    def test_begin(self):
        world = World(PROGRAM)
        self.check(world, (("begin", "done", [ONE]), ("flow", 1)), (("begin", "other", []), ("flow", None)),
                   (("begin", "done", []), ("flow", None)), (("begin", "done", [("text", "")]), ("flow", None)),
                   (("begin", "acts", [ONE]), ("flow", 2)))
        for k in range(3, 21):
            self.assertEqual(world.perform(("begin", "done", [ONE])), ("flow", k))
        self.check(world, (("begin", "done", [ONE]), ("flow", None)), (("turn",), ("tasks", [(2, 0, 1, "pay", ONE)])),
                   (("begin", "done", [ONE]), ("flow", None)))

    def test_ticks_signals_and_calling_off(self):
        world = World(PROGRAM)
        self.check(world, (("signal", 1, "go", ONE), ("ok", False)), (("off", 1), ("ok", False)), (("tick", 3), ("ok", True)),
                   (("tick", 0), ("ok", True)), (("begin", "signals", [ONE]), ("flow", 1)), (("begin", "acts", [ONE]), ("flow", 2)),
                   (("signal", 1, "go", ONE), ("ok", True)), (("signal", 2, "go", ONE), ("ok", True)),
                   (("signal", 3, "go", ONE), ("ok", False)), (("signal", 0, "go", ONE), ("ok", False)), (("off", 2), ("ok", True)),
                   (("off", 2), ("ok", True)), (("off", -1), ("ok", False)), (("turn",), ("tasks", [])),
                   (("off", 2), ("ok", False)), (("signal", 2, "go", ONE), ("ok", False)), (("end", 2), ("end", ("failed", 5))),
                   (("end", 1), ("end", None)), (("end", 3), ("end", None)), (("end", 0), ("end", None)))
        self.assertEqual(world.engine.state.moment, 3)

    def test_bring(self):
        world = World(PROGRAM)
        two, one = (2, 0, 1, "pay", ONE), (1, 0, 1, "pay", ("int", 5))
        self.check(world, (("bring", 0, ("ok", ONE)), ("ok", False)), (("begin", "acts", [("int", 5)]), ("flow", 1)),
                   (("begin", "acts", [ONE]), ("flow", 2)), (("turn",), ("tasks", [one, two])))
        self.assertEqual(world.tasks, [(1, one), (1, two)])
        for k in (-1, -2, 2, 99):
            self.check(world, (("bring", k, ("ok", ONE)), ("ok", False)))
        self.check(world, (("bring", 1, ("ok", NONE)), ("ok", False)), (("bring", 1, ("failed", 99)), ("ok", False)),
                   (("bring", 1, ("ok", ("int", 8))), ("ok", True)), (("bring", 1, ("ok", ONE)), ("ok", False)),
                   (("bring", 0, ("failed", 404)), ("ok", True)), (("bring", 0, ("ok", ONE)), ("ok", False)),
                   (("turn",), ("tasks", [])), (("end", 2), ("end", ("done", ("int", 8)))), (("tick", 2), ("ok", True)),
                   (("turn",), ("tasks", [(1, 0, 2, "pay", ("int", 5))])), (("bring", 0, ("ok", ONE)), ("ok", False)),
                   (("bring", 2, ("ok", ONE)), ("ok", True)), (("turn",), ("tasks", [])), (("end", 1), ("end", ("done", ONE))))

    def test_down(self):
        world = World(PROGRAM)
        self.check(world, (("begin", "acts", [ONE]), ("flow", 1)), (("turn",), ("tasks", [(1, 0, 1, "pay", ONE)])))
        self.check(world, (("crash", 0), DOWN))
        self.assertIsNone(world.engine)
        before = world.journal.text, world.journal.safe, list(world.tasks), world.life
        for deed in (("begin", "acts", [ONE]), ("tick", 5), ("signal", 1, "go", ONE), ("off", 1), ("bring", 0, ("ok", ONE)),
                     ("bring", 7, ("ok", ONE)), ("turn",), ("end", 1), ("end", 9), ("begin", "other", [])):
            self.check(world, (deed, DOWN))
            self.assertEqual((world.journal.text, world.journal.safe, list(world.tasks), world.life), before)
            self.assertIsNone(world.engine)
        self.check(world, (("open",), ("up",)))
        self.assertEqual(world.life, 2)
        # An engine that is up stays.
        engine = world.engine
        world.perform(("tick", 5))
        self.check(world, (("open",), ("up",)))
        self.assertIs(world.engine, engine)
        self.assertEqual((world.life, world.engine.state.moment), (2, 5))

    def test_lives(self):
        world = World(PROGRAM)
        self.check(world, (("begin", "acts", [ONE]), ("flow", 1)), (("turn",), ("tasks", [(1, 0, 1, "pay", ONE)])),
                   (("crash", 0), DOWN), (("open",), ("up",)), (("turn",), ("tasks", [(1, 0, 1, "pay", ONE)])),
                   (("crash", 10 ** 6), DOWN), (("open",), ("up",)), (("turn",), ("tasks", [])), (("crash", 0), DOWN),
                   (("crash", 0), DOWN), (("open",), ("up",)), (("tick", 10), ("ok", True)), (("turn",), ("tasks", [])),
                   (("tick", 2), ("ok", True)), (("turn",), ("tasks", [(1, 0, 2, "pay", ONE)])))
        self.assertEqual(world.tasks, [(1, (1, 0, 1, "pay", ONE)), (2, (1, 0, 1, "pay", ONE)), (4, (1, 0, 2, "pay", ONE))])
        self.assertEqual(world.life, 4)
        # The answer to the task of an earlier life counts, if the attempt is the last one.
        self.check(world, (("bring", 0, ("ok", ONE)), ("ok", False)), (("bring", 2, ("ok", ONE)), ("ok", True)))
        other = World(PROGRAM)
        self.check(other, (("begin", "acts", [ONE]), ("flow", 1)), (("turn",), ("tasks", [(1, 0, 1, "pay", ONE)])),
                   (("crash", 0), DOWN), (("open",), ("up",)), (("bring", 0, ("ok", ("int", 3))), ("ok", True)),
                   (("turn",), ("tasks", [])), (("end", 1), ("end", ("done", ("int", 3)))))

    def test_crashes_while_it_is_down(self):
        world = World(PROGRAM)
        world.perform(("tick", 5))
        world.perform(("tick", 6))
        text = world.journal.text
        self.check(world, (("crash", len(text) - 1), DOWN))
        self.assertEqual(world.journal.text, text[:-1])
        # The power fails once more before an engine has made anything safe.
        self.check(world, (("crash", 5), DOWN), (("open",), ("up",)))
        self.assertEqual(world.engine.state.moment, 0)

    def test_lists_are_not_shared(self):
        world = World(PROGRAM)
        world.perform(("begin", "acts", [ONE]))
        told = world.perform(("turn",))
        told[1].append("more")
        self.assertEqual(world.tasks, [(1, (1, 0, 1, "pay", ONE))])
        values = [ONE]
        world.perform(("begin", "acts", values))
        values.append(ONE)
        self.check_state(world)


class TestCrashes(Case):
    def test_every_number_of_characters(self):
        """A crash behind each deed of a story, with every number of characters that is kept."""
        story = [("begin", "caught", [ONE]), ("begin", "deep", [("int", 3)]), ("turn",), ("tick", 1), ("bring", 0, ("failed", 404)),
                 ("turn",), ("tick", 2), ("bring", 1, ("ok", ONE)), ("turn",), ("off", 2), ("signal", 1, "go", ONE), ("turn",)]
        for many in range(1, len(story) + 1):
            world = World(PROGRAM)
            for deed in story[:many]:
                world.perform(deed)
            events, safe = self.events(world), read_records(world.journal.text[:world.journal.safe])[0]
            for kept in range(len(world.journal.text) - world.journal.safe + 2):
                other = copy.deepcopy(world)
                self.assertEqual(other.perform(("crash", kept)), DOWN)
                self.assertEqual(other.perform(("open",)), ("up",))
                told = self.events(other)
                self.assertEqual(told, events[:len(told)])
                self.assertEqual(told[:len(safe)], safe)
                self.assertEqual(told_of(other.engine.state), told_of(state_of(told)))
                sent = {event[1] for event in told if event[0] == "sent"}
                _, tasks = other.perform(("turn",))
                self.assertTrue(tasks_right(other.journal.text, other.tasks))
                self.assertEqual(len(other.tasks), len(world.tasks) + len(tasks))
                for task in tasks:
                    if (1, task) in world.tasks:
                        # It went out before, but no "sent" event of this attempt was kept.
                        self.assertEqual(self.sent_behind(told, task), False, (kept, task, sent))
                self.check_state(other)

    def sent_behind(self, events, task):
        """Whether a task's attempt was sent, lost or answered in a history."""
        state = state_of([])
        for event in events:
            if event[0] in ("sent", "lost", "answer") and event[1] == task[0]:
                flow = state.flows[task[0]]
                if (len(flow.answers), flow.attempt) == task[1:3]:
                    return True
            state.apply(event)
        return False

    def test_random_deeds(self):
        words = {}
        for seed in range(150):
            rng = random.Random(seed)
            world = World(PROGRAM if seed % 3 else Maker(rng).program())
            for k in range(50):
                deed = deed_for(rng, world, 0.07)
                was_down = world.engine is None
                before = (world.journal.text, len(world.tasks), world.life)
                safe = read_records(world.journal.text[:world.journal.safe])[0]
                answer = self.perform(world, deed)
                words[(deed[0], answer[0])] = words.get((deed[0], answer[0]), 0) + 1
                if was_down and deed[0] not in ("crash", "open"):
                    self.assertEqual(answer, DOWN)
                    self.assertEqual((world.journal.text, len(world.tasks), world.life), before)
                self.assertEqual(world.life, before[2] + (was_down and deed == ("open",)))
                events = self.events(world)
                self.assertEqual(events[:len(safe)], safe)
                if deed[0] == "turn" and answer != DOWN:
                    self.assertEqual(world.tasks[before[1]:], [(world.life, task) for task in answer[1]])
                    for number in world.engine.state.flows:
                        self.assertIsNone(event_by_words(world.program, world.engine.state, number))
                if k % 5 == 0 or deed[0] in ("open", "crash"):
                    self.check_state(world)
        for word in ("crash", "open", "begin", "tick", "signal", "off", "bring", "turn", "end"):
            self.assertGreater(sum(many for told, many in words.items() if told[0] == word), 60, word)
            if word not in ("crash", "open"):
                self.assertGreater(words[(word, "down")], 5)


    def test_every_beginning_of_a_history(self):
        for seed in range(40):
            rng = random.Random(seed)
            world = World(PROGRAM if seed % 2 else Maker(rng).program())
            for _ in range(40):
                world.perform(deed_for(rng, world))
            events = self.events(world)
            state = state_of([])
            for many in range(len(events) + 1):
                told = check_untouched(self, lambda rows: told_of(state_of(rows)), events[:many])
                self.assertEqual(told, state_by_words(events[:many]))
                self.assertEqual(told_of(state), told)
                self.assertIsNone(first_wrong(world.program, events[:many]))
                for number in state.flows:
                    self.assertEqual(next_event(world.program, state, number), event_by_words(world.program, state, number))
                if many < len(events):
                    state.apply(events[many])


class TestEnds(Case):
    def ends(self, world, number):
        """Whether a flow ends in the end: it and its children wait for no signal."""
        flow = world.engine.state.flows[number]
        if flow.end is not None:
            return True
        request = outcome_of(world.program, flow)[1]
        return request[0] != "signal" and (request[0] != "flow" or self.ends(world, flow.child))

    def bring_all(self, rng, world, start):
        """Answers all tasks from an index on by values of their types."""
        for k in range(start, len(world.tasks)):
            flow = world.engine.state.flows.get(world.tasks[k][1][0])
            kind = wanted_kind(world.program, flow) if flow is not None and flow.end is None else None
            if kind is not None:
                world.perform(("bring", k, ("ok", random_value(rng, kind, True))))

    def test_all_flows_come_to_their_ends(self):
        kinds, waiting = {}, 0
        for seed in range(150):
            rng = random.Random(seed)
            signals = seed % 2 == 0
            world = World(PROGRAM if seed % 3 else Maker(rng).program())
            for _ in range(30):
                world.perform(deed_for(rng, world, 0.07))
            # No power fails any more.
            world.perform(("open",))
            start = len(world.tasks) if rng.random() < 0.5 else 0
            for _ in range(90):
                world.perform(("turn",))
                self.bring_all(rng, world, start)
                world.perform(("tick", rng.choice([3, 10, 10 ** 12])))
                for number, flow in world.engine.state.flows.items():
                    outcome = outcome_of(world.program, flow)
                    if signals and flow.end is None and outcome[0] == "waits" and outcome[1][0] == "signal":
                        world.perform(("signal", number, outcome[1][1], random_value(rng, outcome[1][2], True)))
                if all(flow.end is not None for flow in world.engine.state.flows.values()):
                    break
            world.perform(("turn",))
            for number, flow in world.engine.state.flows.items():
                if signals or self.ends(world, number):
                    self.assertIsNotNone(flow.end, (seed, number))
                    meant, _ = run(world.program, flow.function, flow.given, flow.answers, 60)
                    self.assertEqual(world.perform(("end", number)), ("end", meant))
                    kinds[flow.end[0]] = kinds.get(flow.end[0], 0) + 1
                else:
                    self.assertIsNone(flow.end)
                    waiting += 1
            self.check_state(world)
        self.assertGreater(min(kinds[word] for word in ("done", "failed", "tired")), 5, kinds)
        self.assertGreater(waiting, 20)


if __name__ == "__main__":
    unittest.main()
