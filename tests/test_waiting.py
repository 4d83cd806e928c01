import copy
import random
import unittest

from flowreprise.states import state_of
from flowreprise.steps import next_event, outcome_of
from flowreprise.trees import read_program
from flowreprise.waiting import chain, last_wanted, next_moment, own_moment, wanted
from flowreprise.worlds import World
from tests.helper import Maker, deed_for, random_value, told_of
from tests.test_steps import event_by_words
from tests.test_worlds import PROGRAM as WORLD_PROGRAM

ONE, NONE = ("int", 1), ("nothing",)
PROGRAM = read_program("""
    fn acts(n: int): int { return await act pay(n): int; }
    fn timers(n: int): int { do await timer(n); return now; }
    fn signals(n: int): [int] { return await signal go: [int]; }
    fn flows(n: int): int { return await flow acts(n); }
    fn deep(n: int): int { return await flow flows(n); }
    fn sleepy(n: int): int { return await flow timers(n); }
    fn hearing(n: int): [int] { return await flow signals(n); }
    fn done(n: int): int { return n; }
    fn both(n: int): int { return now + random(n); }
    fn texts(n: int): text { let a = now; return await act name("x"): text; }""")


def begun(name, *more, n=7, number=1):
    return [("begin", number, name, [("int", n)], None), *more]


def without_change(case, function, program, state, *rest):
    before = copy.deepcopy((program, told_of(state)))
    told = function(program, state, *rest)
    case.assertEqual((program, told_of(state)), before)
    return told


class Case(unittest.TestCase):
    def check_chain(self, events, number, wanted_chain):
        self.assertEqual(without_change(self, chain, PROGRAM, state_of(events), number), wanted_chain)

    def check_moment(self, events, moment, number=1):
        state = state_of(events)
        self.assertEqual(without_change(self, own_moment, PROGRAM, state, number), moment)
        if len(state.flows) == 1:
            self.assertEqual(without_change(self, next_moment, PROGRAM, state), moment)

    def check_wanted(self, events, told, number=1):
        self.assertEqual(without_change(self, wanted, PROGRAM, state_of(events), number), told)


class TestChains(Case):
    def test_one(self):
        for name in ("acts", "timers", "signals", "flows", "done"):
            self.check_chain(begun(name), 1, [1])
        self.check_chain(begun("done", ("end", 1, ("done", ("int", 7)))), 1, [1])

    def test_two_and_more(self):
        rows = begun("deep", ("begin", 2, "done", [ONE], None), ("begin", 3, "flows", [("int", 7)], 1))
        self.check_chain(rows, 1, [1, 3])
        self.check_chain(rows, 2, [2])
        self.check_chain(rows, 3, [3])
        rows += [("begin", 4, "acts", [("int", 7)], 3), ("attempt", 4, 1)]
        self.check_chain(rows, 1, [1, 3, 4])
        self.check_chain(rows, 3, [3, 4])
        self.check_chain(rows, 4, [4])

    def test_children_that_have_ended(self):
        rows = begun("flows", ("begin", 2, "acts", [("int", 7)], 1), ("attempt", 2, 1), ("answer", 2, ("ok", ONE), None))
        self.check_chain(rows, 1, [1, 2])
        rows += [("end", 2, ("done", ONE))]
        # The request is not answered yet, so the child follows still.
        self.check_chain(rows, 1, [1, 2])
        rows += [("answer", 1, ("ok", ONE), None)]
        self.check_chain(rows, 1, [1])
        self.check_chain([*rows, ("end", 1, ("done", ONE))], 1, [1])

    def test_called_off(self):
        rows = begun("flows", ("begin", 2, "acts", [("int", 7)], 1), ("off", 1), ("off", 2))
        self.check_chain(rows, 1, [1, 2])
        self.check_chain([*rows, ("answer", 1, ("failed", 5), None)], 1, [1])
        self.check_chain([*rows, ("answer", 1, ("failed", 5), None), ("end", 1, ("failed", 5))], 1, [1])

    def test_a_flow_that_has_ended_has_no_child(self):
        state = state_of(begun("flows", ("begin", 2, "acts", [("int", 7)], 1)))
        state.flows[1].end = ("failed", 5)
        self.assertEqual(chain(PROGRAM, state, 1), [1])

    def test_twenty(self):
        program = read_program("fn f(n: int): int { return await flow f(n); }")
        world = World(program)
        world.perform(("begin", "f", [ONE]))
        for number in range(2, 21):
            world.engine.journal.append(("begin", number, "f", [ONE], number - 1))
            world.engine.state.apply(("begin", number, "f", [ONE], number - 1))
        self.assertEqual(chain(program, world.engine.state, 1), list(range(1, 21)))
        self.assertEqual(chain(program, world.engine.state, 15), list(range(15, 21)))


class TestMoments(Case):
    def test_at_once(self):
        for name in ("acts", "timers", "flows", "done", "both"):
            self.check_moment(begun(name), 0)
            self.check_moment([("tick", 5), *begun(name)], 5)
        for name in ("acts", "signals", "flows", "timers"):
            self.check_moment([("tick", 5), *begun(name), ("off", 1), ("tick", 9)], 9)

    def test_never(self):
        self.check_moment(begun("signals"), None)
        self.check_moment([("tick", 5), *begun("signals", ("signal", 1, "go", ONE), ("signal", 1, "stop", ("list", ())))], None)
        self.check_moment(begun("done", ("end", 1, ("done", ("int", 7)))), None)
        rows = begun("flows", ("begin", 2, "acts", [("int", 7)], 1))
        self.check_moment(rows, None)
        self.check_moment([*rows, ("attempt", 2, 1)], None)
        self.check_moment([*rows, ("attempt", 2, 1)], 10, 2)
        self.assertIsNone(next_moment(PROGRAM, state_of([])))
        self.assertIsNone(next_moment(PROGRAM, state_of([("tick", 5), *begun("signals")])))

    def test_timers(self):
        rows = [("tick", 3), *begun("timers", ("due", 1, 10))]
        self.check_moment(rows, 10)
        self.check_moment([*rows, ("tick", 9)], 10)
        self.check_moment([*rows, ("tick", 10)], 10)
        self.check_moment([*rows, ("tick", 12)], 12)
        self.check_moment([("tick", 3), *begun("timers", ("due", 1, 3 + 10 ** 12), n=10 ** 12)], 3 + 10 ** 12)

    def test_attempts(self):
        rows = [("tick", 3), *begun("acts", ("attempt", 1, 1))]
        self.check_moment(rows, 13)
        self.check_moment([*rows, ("sent", 1), ("tick", 12)], 13)
        self.check_moment([*rows, ("sent", 1), ("tick", 14)], 14)
        rows += [("tick", 8), ("lost", 1, 404)]
        self.check_moment(rows, 10)
        self.check_moment([*rows, ("tick", 9)], 10)
        self.check_moment([*rows, ("tick", 11)], 11)
        rows += [("tick", 20), ("attempt", 1, 2)]
        self.check_moment(rows, 30)
        rows += [("tick", 21), ("lost", 1, 405)]
        self.check_moment(rows, 25)
        rows += [("tick", 30), ("attempt", 1, 3)]
        self.check_moment(rows, 40)
        self.check_moment([*rows, ("tick", 33), ("lost", 1, 406)], 33)

    def test_several_flows(self):
        rows = [("tick", 3), *begun("timers", ("due", 1, 10)), *begun("signals", number=2), *begun("acts", ("attempt", 3, 1), number=3)]
        state = state_of(rows)
        self.assertEqual([own_moment(PROGRAM, state, number) for number in (1, 2, 3)], [10, None, 13])
        self.assertEqual(next_moment(PROGRAM, state), 10)
        state.apply(("answer", 1, ("ok", NONE), None))
        self.assertEqual(next_moment(PROGRAM, state), 3)
        state.apply(("end", 1, ("done", ONE)))
        self.assertEqual(next_moment(PROGRAM, state), 13)
        state.apply(("signal", 2, "go", ("list", ())))
        self.assertEqual(next_moment(PROGRAM, state), 3)


class TestWanted(Case):
    def test_signals(self):
        told = ("signal", "go", ("list", "int"))
        self.check_wanted(begun("signals"), told)
        self.check_wanted(begun("signals", ("signal", 1, "go", ONE), ("signal", 1, "stop", ("list", ()))), told)
        self.check_wanted(begun("signals", ("signal", 1, "go", ("list", ()))), None)
        self.check_wanted(begun("signals", ("off", 1)), None)
        over = begun("signals", ("signal", 1, "go", ("list", ())), ("answer", 1, ("ok", ("list", ())), 0))
        self.check_wanted(over, None)
        self.check_wanted([*over, ("end", 1, ("done", ("list", ())))], None)

    def test_answers(self):
        self.check_wanted(begun("acts"), None)
        rows = begun("acts", ("attempt", 1, 1))
        told = ("answer", (1, 0, 1, "pay", ("int", 7)), "int")
        for more in ([], [("sent", 1)], [("tick", 9)]):
            self.check_wanted([*rows, *more], told)
        for more in ([("tick", 10)], [("lost", 1, 404)], [("off", 1)], [("lost", 1, 404), ("tick", 2)],
                     [("answer", 1, ("ok", ONE), None)]):
            self.check_wanted([*rows, *more], None)
        rows += [("lost", 1, 404), ("tick", 2), ("attempt", 1, 2)]
        self.check_wanted(rows, ("answer", (1, 0, 2, "pay", ("int", 7)), "int"))
        rows = begun("texts", ("answer", 1, ("ok", ONE), None), ("attempt", 1, 1))
        self.check_wanted(rows, ("answer", (1, 1, 1, "name", ("text", "x")), "text"))

    def test_nothing(self):
        for rows in (begun("timers"), begun("timers", ("due", 1, 7)), begun("flows"), begun("done"), begun("both"),
                     begun("flows", ("begin", 2, "acts", [("int", 7)], 1)), begun("done", ("end", 1, ("done", ("int", 7))))):
            self.check_wanted(rows, None)

    def check_last(self, events, told, number=1):
        self.assertEqual(without_change(self, last_wanted, PROGRAM, state_of(events), number), told)

    def test_last_wanted(self):
        self.check_last(begun("signals"), (1, ("signal", "go", ("list", "int"))))
        self.check_last(begun("timers", ("due", 1, 7)), None)
        rows = begun("deep", ("begin", 2, "flows", [("int", 7)], 1))
        self.check_last(rows, None)
        rows += [("begin", 3, "acts", [("int", 7)], 2)]
        self.check_last(rows, None)
        rows += [("attempt", 3, 1)]
        for number in (1, 2, 3):
            self.check_last(rows, (3, ("answer", (3, 0, 1, "pay", ("int", 7)), "int")), number)
        self.check_last([*rows, ("lost", 3, 404)], None)
        rows += [("answer", 3, ("ok", ONE), None), ("end", 3, ("done", ONE))]
        self.check_last(rows, None)
        self.check_last(begun("hearing", ("begin", 2, "signals", [("int", 7)], 1)), (2, ("signal", "go", ("list", "int"))))
        self.check_last(begun("sleepy", ("begin", 2, "timers", [("int", 7)], 1), ("due", 2, 7)), None)


class TestWorlds(Case):
    """Worlds with deeds of all kinds, which come up and make a turn or not."""

    def worlds(self, seeds):
        for seed in seeds:
            rng = random.Random(seed)
            world = World((WORLD_PROGRAM, PROGRAM, None)[seed % 3] or Maker(rng).program())
            for _ in range(rng.randrange(1, 45)):
                world.perform(deed_for(rng, world))
            world.perform(("open",))
            if rng.random() < 0.7:
                world.perform(("turn",))
            yield rng, world

    def test_chains(self):
        longest = 0
        for _, world in self.worlds(range(150)):
            program, state = world.program, world.engine.state
            for number in state.flows:
                told = without_change(self, chain, program, state, number)
                self.assertEqual(told[0], number)
                for one, other in zip(told, [*told[1:], None]):
                    flow = state.flows[one]
                    is_parent = flow.end is None and flow.child is not None
                    self.assertEqual(other, flow.child if is_parent else None)
                    if is_parent:
                        self.assertEqual(outcome_of(program, flow)[1][0], "flow")
                    elif flow.end is None and event_by_words(program, state, one) is None:
                        self.assertIn(outcome_of(program, flow)[1][0], ("act", "timer", "signal"))
                longest = max(longest, len(told))
        self.assertGreater(longest, 2)

    def test_moments(self):
        later = 0
        for _, world in self.worlds(range(200)):
            program, state = world.program, world.engine.state
            moments = []
            for number, flow in state.flows.items():
                told = without_change(self, own_moment, program, state, number)
                for moment in self.moments_around(state, told):
                    has_event = self.event_at(program, state, moment, number) is not None
                    self.assertEqual(has_event, told is not None and moment >= told)
                moments += [told] if told is not None else []
                later += told is not None and told > state.moment
            least = without_change(self, next_moment, program, state)
            self.assertEqual(least, min(moments, default=None))
            for moment in self.moments_around(state, least):
                some = [number for number in state.flows if self.event_at(program, state, moment, number) is not None]
                self.assertEqual(some != [], least is not None and moment >= least)
        self.assertGreater(later, 60)

    def moments_around(self, state, told):
        rows = [state.moment, state.moment + 1, state.moment + 9, state.moment + 2 * 10 ** 12]
        if told is not None:
            rows += [told - 1, told, told + 1, (state.moment + told) // 2]
        return [moment for moment in rows if moment >= state.moment]

    def event_at(self, program, state, moment, number):
        other = copy.deepcopy(state)
        other.apply(("tick", moment))
        return event_by_words(program, other, number)

    def test_what_is_wanted_and_then_comes(self):
        seen = {"signal": 0, "answer": 0, None: 0}
        for rng, world in self.worlds(range(200)):
            program = world.program
            for number in list(world.engine.state.flows):
                state = world.engine.state
                told = without_change(self, wanted, program, state, number)
                self.assertEqual(told, self.wanted_by_words(program, state, number))
                seen[told and told[0]] += 1
                last = chain(program, state, number)[-1]
                found = wanted(program, state, last)
                self.assertEqual(last_wanted(program, state, number), None if found is None else (last, found))
                if told is None:
                    continue
                other = copy.deepcopy(world)
                value = random_value(rng, told[2], True)
                if told[0] == "signal":
                    self.assertEqual(other.perform(("signal", number, told[1], value)), ("ok", True))
                else:
                    self.assertTrue(other.engine.bring(told[1], ("ok", value)))
                many = len(state.flows[number].answers)
                other.perform(("turn",))
                answers = other.engine.state.flows[number].answers
                self.assertEqual(answers[many], ("ok", value))
        self.assertGreater(min(seen.values()), 40)

    def wanted_by_words(self, program, state, number):
        flow = state.flows[number]
        if flow.end is not None or event_by_words(program, state, number) is not None:
            return None
        request = outcome_of(program, flow)[1]
        if request[0] == "signal":
            return ("signal", request[1], request[2])
        if request[0] == "act" and flow.attempt and flow.lost is None:
            return ("answer", (number, len(flow.answers), flow.attempt, request[1], request[2]), request[3])
        return None

    def test_nothing_happens_before_the_next_moment(self):
        """If time passes up to the moment before it, a turn finds nothing to do."""
        for _, world in self.worlds(range(300, 380)):
            world.perform(("turn",))
            state = world.engine.state
            told = next_moment(world.program, state)
            self.assertTrue(all(next_event(world.program, state, number) is None for number in state.flows))
            for passed in (0, 1, 5):
                other = copy.deepcopy(world)
                moment = state.moment + passed if told is None else max(state.moment, told - 1 - passed)
                other.perform(("tick", moment - state.moment))
                text = other.journal.text
                self.assertEqual(other.perform(("turn",)), ("tasks", []))
                self.assertEqual(other.journal.text, text)
            if told is not None:
                other = copy.deepcopy(world)
                other.perform(("tick", told - state.moment))
                text = other.journal.text
                other.perform(("turn",))
                self.assertGreater(len(other.journal.text), len(text))


if __name__ == "__main__":
    unittest.main()
