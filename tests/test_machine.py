import copy
import random
import unittest

from flowreprise.bounds import bounded, ending, most_steps, step_paper
from flowreprise.compiling import compile_program, signatures
from flowreprise.errors import FlowError, StateError, VerifyError
from flowreprise.machine import Machine, resumed
from flowreprise.operations import is_of, is_value
from flowreprise.trees import read_program
from flowreprise.verifying import verify
from tests.helper import (
    Failure, Maker, Meaning, Pause, Stepping, answers_of, mutable_ids, random_value)

ONE, TWO, NONE = ("int", 1), ("int", 2), ("nothing",)
TRUE, FALSE = ("bool", True), ("bool", False)


def text(s):
    return ("text", s)


def ints(*numbers):
    return ("list", tuple(("int", n) for n in numbers))


def machine_of(rows, slots=(), stack=(), many=None, more=None):
    """A machine in a function "f" with these instructions, after values were put on its stack and into its slots."""
    first = []
    for value in stack:
        first += pushes(value)
    count = len(slots) if many is None else many
    code = ("code", "f", len(slots), count, first + list(rows) + [("push", NONE), ("return",)])
    machine = Machine({"f": code, **(more or {})}, "f", list(slots))
    machine.run(len(first))
    return machine, len(first)


def pushes(value):
    if value[0] != "list":
        return [("push", value)]
    rows = [row for item in value[1] for row in pushes(item)]
    return rows + [("list", "int", len(value[1]))]


class Case(unittest.TestCase):
    def check_raises(self, word, function, *arguments):
        with self.assertRaises(StateError) as caught:
            function(*arguments)
        self.assertEqual(caught.exception.word, word)
        self.assertIsInstance(caught.exception, FlowError)


class TestExample(unittest.TestCase):
    def test_example(self):
        body = [("let", "a", ("await", "act", "pay", ("var", "n"), "int")),
                ("return", ("op", "+", ("var", "a"), ("int", 1)))]
        machine = Machine(compile_program([("fn", "flow", [("n", "int")], "int", body)]), "flow", [("int", 5)])
        self.assertEqual(
            (machine.run(1), machine.run(9)), (("tired",), ("waits", ("act", "pay", ("int", 5), "int"))))
        machine.answer(("ok", ("int", 7)))
        self.assertEqual((machine.run(9), machine.steps, machine.frames()), (("done", ("int", 8)), 7, []))


class TestInstructions(Case):
    def after(self, row, stack=(), slots=(), many=None, more=None):
        """The frame behind one instruction, with places counted from it on."""
        machine, start = machine_of([row, ("drop",), ("drop",)], slots, stack, many, more)
        steps = machine.steps
        machine.step()
        self.assertEqual(machine.steps, steps + 1)
        if not machine.frames():
            return machine.outcome()
        name, at, slots, stack, guards = machine.frames()[-1]
        return at - start if name == "f" else name, slots, stack, guards

    def test_beginning(self):
        machine, _ = machine_of([("drop",)], [ONE, text("")], many=4)
        self.assertEqual(machine.frames(), [("f", 0, (ONE, text(""), None, None), (), ())])
        self.assertEqual((machine.steps, machine.asked, machine.outcome()), (0, None, None))

    def test_values_and_slots(self):
        for value in (ONE, TRUE, text("a"), NONE):
            self.assertEqual(self.after(("push", value), [TWO]), (1, (), (TWO, value), ()))
        self.assertEqual(self.after(("get", 1), [], [ONE, text("b")]), (1, (ONE, text("b")), (text("b"),), ()))
        self.assertEqual(self.after(("put", 1), [ONE, TWO], [TRUE], 3), (1, (TRUE, TWO, None), (ONE,), ()))
        self.assertEqual(self.after(("put", 0), [TWO], [TRUE]), (1, (TWO,), (), ()))
        self.assertEqual(self.after(("drop",), [ONE, TWO]), (1, (), (ONE,), ()))

    def test_jumps(self):
        self.assertEqual(self.after(("jump", 0)), (0, (), (), ()))
        self.assertEqual(self.after(("jump", 2), []), (2, (), (), ()))
        self.assertEqual(self.after(("unless", 0), [ONE, TRUE]), (1, (), (ONE,), ()))
        self.assertEqual(self.after(("unless", 0), [ONE, FALSE])[0], -2)
        self.assertEqual(self.after(("unless", 4), [ONE, FALSE])[:3], (2, (), (ONE,)))

    def test_guards(self):
        self.assertEqual(self.after(("guard", 2, 0), [ONE, TWO], [ONE]), (1, (ONE,), (ONE, TWO), ((2, 0, 2),)))
        machine, start = machine_of([("guard", 1, 0), ("guard", 2, 0), ("unguard",), ("unguard",)], [ONE], [TWO])
        told = []
        for _ in range(4):
            machine.step()
            told.append(machine.frames()[0][4])
        self.assertEqual(told, [((1, 0, 1),), ((1, 0, 1), (2, 0, 1)), ((1, 0, 1),), ()])

    def test_operations(self):
        for row, stack, made in (
                (("op", "+"), [ONE, TWO], ("int", 3)), (("op", "-"), [ONE, TWO], ("int", -1)),
                (("op", "*"), [("int", -3), TWO], ("int", -6)), (("op", "/"), [("int", -7), TWO], ("int", -4)),
                (("op", "&"), [text("a"), text("b")], text("ab")), (("op", "&"), [ints(1), ints(2)], ints(1, 2)),
                (("op", "="), [ONE, ONE], TRUE), (("op", "="), [ints(1), ints(2)], FALSE),
                (("op", "!="), [text(""), text("a")], TRUE), (("op", "<"), [ONE, TWO], TRUE),
                (("op", "<"), [text("b"), text("a")], FALSE), (("op", "<="), [TWO, TWO], TRUE),
                (("not",), [TRUE], FALSE), (("neg",), [TWO], ("int", -2)), (("item",), [ints(4, 5), ONE], ("int", 5)),
                (("size",), [ints(4, 5)], TWO), (("size",), [text("abc")], ("int", 3)),
                (("text of",), [("int", -12)], text("-12")), (("text of",), [FALSE], text("false")),
                (("list", "int", 2), [ONE, TWO], ints(1, 2)), (("list", "int", 0), [], ("list", ()))):
            with self.subTest(row=row, stack=stack):
                self.assertEqual(self.after(row, [NONE, *stack]), (1, (), (NONE, made), ()))

    def test_operations_that_fail(self):
        great = ("int", 10 ** 12)
        for row, stack, code in (
                (("op", "+"), [great, ONE], 2), (("op", "-"), [("int", -10 ** 12), ONE], 2), (("op", "*"), [great, TWO], 2),
                (("op", "/"), [ONE, ("int", 0)], 1), (("op", "&"), [text("a" * 31), text("a" * 30)], 2),
                (("op", "&"), [ints(*range(11)), ints(*range(10))], 2), (("item",), [ints(4), ONE], 3),
                (("item",), [ints(4), ("int", -1)], 3), (("list", "int", 21), [ONE] * 21, 2),
                (("fail",), [("int", 100)], 100), (("fail",), [("int", 999)], 999), (("fail",), [("int", 99)], 2),
                (("fail",), [("int", 1000)], 2), (("fail",), [("int", -404)], 2)):
            with self.subTest(row=row, stack=stack):
                self.assertEqual(self.after(row, [NONE, *stack]), ("failed", code))
                machine, start = machine_of([("guard", 7, 0), *[r for v in stack for r in pushes(v)], row], [TRUE], [NONE])
                machine.run(1 + sum(len(pushes(value)) for value in stack))
                steps = machine.steps
                machine.step()
                self.assertEqual(machine.steps, steps + 1)
                self.assertEqual(machine.frames(), [("f", 7, (("int", code),), (NONE,), ())])

    def test_calls_and_returns(self):
        more = {"g": ("code", "g", 2, 3, [("get", 0), ("return",)])}
        self.assertEqual(
            self.after(("call", "g", 2), [NONE, ONE, TWO], more=more), ("g", (ONE, TWO, None), (), ()))
        machine, start = machine_of([("call", "g", 2), ("drop",)], [TRUE], [NONE, ONE, TWO], more=more)
        machine.step()
        self.assertEqual(machine.frames(), [
            ("f", start + 1, (TRUE,), (NONE,), ()), ("g", 0, (ONE, TWO, None), (), ())])
        self.assertEqual(machine.run(2), ("tired",))
        self.assertEqual(machine.frames(), [("f", start + 1, (TRUE,), (NONE, ONE), ())])
        self.assertEqual(self.after(("return",), [ints(1)]), ("done", ints(1)))

    def test_requests(self):
        for row, stack, request in (
                (("ask", "act", "pay", "text"), [ints(1)], ("act", "pay", ints(1), "text")),
                (("ask", "timer"), [("int", 0)], ("timer", 0)), (("ask", "timer"), [TWO], ("timer", 2)),
                (("ask", "signal", "go", ("list", "int")), [], ("signal", "go", ("list", "int"))),
                (("ask", "flow", "g", 2, "bool"), [ONE, TWO], ("flow", "g", (ONE, TWO))),
                (("ask", "flow", "g", 0, "bool"), [], ("flow", "g", ())),
                (("ask", "now"), [], ("now",)), (("ask", "random"), [ONE], ("random", 1))):
            with self.subTest(row=row):
                self.assertEqual(self.after(row, [NONE, *stack]), (1, (), (NONE,), ()))
                machine, start = machine_of([row], [], [NONE, *stack])
                self.assertEqual(machine.run(5), ("waits", request))
                self.assertEqual(machine.outcome(), ("waits", request))
                self.assertEqual(machine.asked, request)
                self.assertEqual(machine.steps, start + 1)
        for row, stack in ((("ask", "timer"), [("int", -1)]), (("ask", "random"), [("int", 0)])):
            self.assertEqual(self.after(row, [NONE, *stack]), ("failed", 2))
            machine, _ = machine_of([("guard", 5, 0), *pushes(stack[0]), row], [ONE], [NONE])
            machine.run(3)
            self.assertEqual(machine.frames(), [("f", 5, (TWO,), (NONE,), ())])
            self.assertIsNone(machine.asked)


class TestAnswers(Case):
    def rows(self):
        return (
            (("ask", "act", "pay", "text"), [ONE], [text(""), text("a" * 60)],
             [ONE, text("a" * 61), text("\n"), NONE, ("list", ())]),
            (("ask", "signal", "go", ("list", "int")), [], [("list", ()), ints(1, 2)],
             [ONE, ("list", (TRUE,)), ("list", (ONE, TRUE)), ints(*range(21)), ints(10 ** 12 + 1)]),
            (("ask", "timer"), [ONE], [NONE], [ONE, text(""), TRUE]),
            (("ask", "now"), [], [("int", 0), ("int", -5), ("int", 10 ** 12)], [NONE, TRUE, ("int", 10 ** 12 + 1)]),
            (("ask", "random"), [("int", 3)], [("int", 0), TWO], [("int", -1), ("int", 3), TRUE, NONE]),
            (("ask", "flow", "g", 1, "bool"), [ONE], [TRUE, FALSE], [ONE, NONE]))

    def test_answers(self):
        for row, stack, good, bad in self.rows():
            for value in good:
                machine, start = machine_of([row, ("drop",)], [ONE], [NONE, *stack])
                self.check_raises("answer", machine.answer, ("ok", value))
                machine.step()
                before = machine.saved(), machine.frames()
                for wrong in bad:
                    self.check_raises("answer", machine.answer, ("ok", wrong))
                self.assertEqual((machine.saved(), machine.frames()), before)
                steps = machine.steps
                machine.answer(("ok", value))
                self.assertEqual(machine.steps, steps)
                self.assertEqual(machine.frames(), [("f", start + 1, (ONE,), (NONE, value), ())])
                self.assertEqual((machine.asked, machine.outcome()), (None, None))
                self.check_raises("answer", machine.answer, ("ok", value))
                self.check_raises("answer", machine.answer, ("failed", 100))
                self.check_raises("answer", machine.call_off)

    def test_failures(self):
        for row, stack, _, _ in self.rows():
            for code in (4, 5, 6, 100, 999):
                machine, _ = machine_of([row, ("drop",)], [ONE], [NONE, *stack])
                machine.step()
                machine.answer(("failed", code))
                self.assertEqual(machine.outcome(), ("failed", code))
                self.assertEqual(machine.frames(), [])
                self.check_raises("answer", machine.answer, ("failed", code))
                self.check_raises("step", machine.step)
                machine, start = machine_of(
                    [("guard", 9, 1), *[r for v in stack for r in pushes(v)], row], [ONE], [NONE], 2)
                machine.run(9)
                steps = machine.steps
                machine.answer(("failed", code))
                self.assertEqual(machine.steps, steps)
                self.assertEqual(machine.frames(), [("f", 9, (ONE, ("int", code)), (NONE,), ())])
                self.assertIsNone(machine.outcome())

    def test_values_that_were_taken_are_there_again(self):
        # The guard is set above the values that the request takes.
        for row, count in ((("ask", "flow", "g", 2, "int"), 2), (("ask", "act", "pay", "int"), 1)):
            machine, _ = machine_of([("guard", 7, 0), row], [ONE], [NONE, ONE, TWO])
            machine.run(2)
            self.assertEqual(machine.frames()[0][3], (NONE, ONE, TWO)[:3 - count])
            machine.call_off()
            self.assertEqual(machine.frames(), [("f", 7, (("int", 5),), (NONE, ONE, TWO), ())])
        # A stack that is lower than the guard stays.
        machine, _ = machine_of([("guard", 8, 0), ("drop",), ("ask", "timer")], [ONE], [NONE, ONE, TWO])
        machine.run(3)
        machine.answer(("failed", 300))
        self.assertEqual(machine.frames(), [("f", 8, (("int", 300),), (NONE, ONE), ())])

    def test_being_called_off(self):
        machine, _ = machine_of([("ask", "now")])
        self.check_raises("answer", machine.call_off)
        machine.step()
        machine.call_off()
        self.assertEqual(machine.outcome(), ("failed", 5))
        self.check_raises("answer", machine.call_off)
        machine, _ = machine_of([])
        machine.run(5)
        self.check_raises("answer", machine.call_off)

    def test_answers_of_another_word(self):
        machine, _ = machine_of([("ask", "now")])
        machine.step()
        self.check_raises("answer", machine.answer, ("done", ONE))
        self.assertEqual(machine.outcome(), ("waits", ("now",)))


class TestFailures(Case):
    DEEP = """
        fn f(n: int): int {{ {0} }}
        fn g(n: int): int {{ let a = 1; {1} }}
        fn h(n: int): int {{ {2} }}"""

    def frames_behind(self, *bodies):
        """The steps and frames when a failure has been met, and the outcome."""
        codes = compile_program(read_program(self.DEEP.format(*bodies)))
        machine = Machine(codes, "f", [("int", 7)])
        high = 0
        while machine.outcome() is None:
            machine.step()
            frames = machine.frames()
            if len(frames) < high:
                return frames, machine.outcome()
            high = max(high, len(frames))
        return machine.frames(), machine.outcome()

    def test_through_frames(self):
        guarded = "try {{ return 5 + {0}; }} catch c {{ return c; }}"
        self.assertEqual(
            self.frames_behind("return 1 + g(n);", "return 2 + h(n);", "fail 300;"), ([], ("failed", 300)))
        self.assertEqual(
            self.frames_behind("return 1 + g(n);", "return 2 + h(n);", "do 1; return 1 / (n - n);"), ([], ("failed", 1)))
        frames, outcome = self.frames_behind("return 1 + g(n);", guarded.format("h(n)"), "fail 300;")
        self.assertIsNone(outcome)
        self.assertEqual(frames, [
            ("f", 3, (("int", 7),), (ONE,), ()), ("g", 10, (("int", 7), ONE, ("int", 300)), (), ())])
        frames, outcome = self.frames_behind(guarded.format("g(n)"), "return 2 + h(n);", "do [int: n][n]; return 1;")
        self.assertEqual(frames, [("f", 8, (("int", 7), ("int", 3)), (), ())])

    def test_in_one_frame_and_in_the_second_body(self):
        machine = Machine(compile_program(read_program(
            "fn f(n: int): int { try { try { fail n; } catch c { do 1 / 0; } } catch d { return d * 10; } return 1; }")),
            "f", [("int", 404)])
        self.assertEqual(machine.run(4), ("tired",))
        self.assertEqual(machine.frames(), [("f", 6, (("int", 404), None, ("int", 404)), (), ((12, 1, 0),))])
        self.assertEqual(machine.run(3), ("tired",))
        self.assertEqual(machine.frames(), [("f", 12, (("int", 404), ONE, ("int", 404)), (), ())])
        self.assertEqual(machine.run(9), ("done", ("int", 10)))

    def test_31_frames(self):
        for many, told in ((30, ("done", ("int", 30))), (31, ("failed", 4)), (50, ("failed", 4))):
            codes = compile_program(read_program(
                "fn f(n: int): int { if n < 1 { return 0; } return 1 + f(n - 1); }"))
            machine = Machine(codes, "f", [("int", many)])
            highest = 0
            while machine.outcome() is None:
                machine.step()
                highest = max(highest, len(machine.frames()))
            self.assertEqual(machine.outcome(), told)
            self.assertEqual(highest, 31)

    def test_the_32nd_frame_with_a_guard(self):
        codes = compile_program(read_program(
            "fn f(n: int): int { if n < 1 { return 0; } try { return 1 + f(n - 1); } catch c { return 1000 * c; } }"))
        machine = Machine(codes, "f", [("int", 31)])
        while len(machine.frames()) < 31 or machine.codes["f"][4][machine.frames()[-1][1]][0] != "call":
            machine.step()
        before, steps = machine.frames(), machine.steps
        self.assertEqual(before[-1][1:], (12, (ONE, None), (ONE, ("int", 0)), ((17, 1, 0),)))
        machine.step()
        self.assertEqual(machine.steps, steps + 1)
        self.assertEqual(machine.frames(), before[:-1] + [("f", 17, (ONE, ("int", 4)), (), ())])
        self.assertEqual(machine.run(1000), ("done", ("int", 4030)))

    def test_values_that_a_call_took_are_there_again(self):
        more = {"g": ("code", "g", 2, 2, [("push", ("int", 300)), ("fail",)])}
        machine, _ = machine_of([("guard", 7, 0), ("call", "g", 2)], [ONE], [NONE, ONE, TWO], more=more)
        machine.run(2)
        self.assertEqual([frame[3] for frame in machine.frames()], [(NONE,), ()])
        machine.run(2)
        self.assertEqual(machine.frames(), [("f", 7, (("int", 300),), (NONE, ONE, TWO), ())])


class TestRunning(Case):
    def test_fewer_and_more_steps(self):
        for most in range(12):
            machine, _ = machine_of([("push", ONE), ("drop",)] * 4)
            self.assertEqual(machine.run(most), ("tired",) if most < 10 else ("done", NONE))
            self.assertEqual(machine.steps, min(most, 10))
            self.assertEqual(machine.outcome(), None if most < 10 else ("done", NONE))
            self.assertEqual(machine.run(100), ("done", NONE))
            self.assertEqual((machine.steps, machine.frames()), (10, []))
            self.assertEqual(machine.run(0), ("done", NONE))

    def test_steps_behind_the_outcome(self):
        for rows in ([], [("push", ONE), ("fail",)], [("ask", "now")]):
            machine, _ = machine_of(rows)
            machine.run(9)
            before = machine.saved()
            self.check_raises("step", machine.step)
            self.assertEqual(machine.saved(), before)
            self.assertEqual(machine.run(5), machine.outcome())

    def test_nothing_is_modified_or_shared(self):
        program = read_program(
            "fn f(n: int, k: [int]): int { set n = await act pay(k): int; return g(n); } "
            "fn g(n: int): int { let a = await flow f(n, [int:]); return a; }")
        codes, values = compile_program(program), [ONE, ints(1)]
        before = copy.deepcopy((codes, values))
        machine = Machine(codes, "f", values)
        told = [machine.run(20), machine.outcome(), machine.frames(), machine.saved(), machine.asked]
        kept = copy.deepcopy(told)
        self.assertFalse(mutable_ids(told) & mutable_ids([codes, values]))
        machine.answer(("ok", TWO))
        told[2].append(machine.run(20))
        machine.call_off()
        self.assertEqual(told[:2] + told[3:], kept[:2] + kept[3:])
        self.assertEqual(machine.frames(), [])
        self.assertEqual((codes, values), before)


def step_beside(stepping):
    """One step of the other machine, and its outcome or None."""
    try:
        return stepping.step()
    except Failure as failure:
        return stepping.fall(failure.code)
    except Pause as pause:
        return pause.outcome


def frames_of(stepping):
    return [(frame["rows"], frame["at"], tuple(frame["slots"]), tuple(frame["stack"]), tuple(frame["guards"]))
            for frame in stepping.frames]


class TestPrograms(Case):
    def program(self, seed, rng):
        return Maker(rng, loops=seed % 2 == 0, rings=seed % 3 > 0).program()

    def check_run(self, rng, program, name, values, codes, answers, most=400):
        """Runs a machine beside another one, step by step, and returns it."""
        machine = Machine(codes, name, values)
        stepping = Stepping(codes, lambda request: None, 10 ** 9)
        stepping.frames = []
        stepping.begin(name, values)
        for _ in range(most):
            if machine.asked is not None:
                told = answers(machine.asked)
                if told is None:
                    break
                machine.answer(told)
                self.check_answered(stepping, told)
            elif machine.outcome() is None:
                if rng.random() < 0.2:
                    self.check_raises("answer", machine.answer, ("ok", ONE))
                machine.step()
                outcome = step_beside(stepping)
                self.assertEqual(machine.steps, stepping.steps)
                self.assertEqual(machine.outcome(), outcome)
            else:
                break
            wanted = frames_of(stepping)
            told = [(codes[frame[0]][4], *frame[1:]) for frame in machine.frames()]
            self.assertEqual(told, wanted)
        return machine

    def check_answered(self, stepping, told):
        if told[0] == "ok":
            stepping.frames[-1]["stack"].append(told[1])
        else:
            stepping.fall(told[1])

    def test_beside_another_machine(self):
        for seed in range(300):
            rng = random.Random(seed)
            program = self.program(seed, rng)
            codes = compile_program(program)
            before = copy.deepcopy(codes)
            for _, name, params, _, _ in program:
                values = [random_value(rng, kind, rng.random() < 0.7) for _, kind in params]
                kept = list(values)
                self.check_run(rng, program, name, values, codes, answers_of(seed, program, 8))
                self.assertEqual(values, kept)
            self.assertEqual(codes, before)

    def test_beside_the_meaning(self):
        for seed in range(300):
            rng = random.Random(seed)
            program = self.program(seed, rng)
            codes = compile_program(program)
            for _, name, params, _, _ in program:
                values = [random_value(rng, kind, rng.random() < 0.7) for _, kind in params]
                meaning = Meaning(program, answers_of(seed, program, 9), 1000)
                outcome = meaning.run(name, values)
                if outcome == ("tired",):
                    continue
                machine, answers, requests = Machine(codes, name, values), answers_of(seed, program, 9), []
                while machine.run(10 ** 6)[0] == "waits":
                    requests.append(machine.asked)
                    told = answers(machine.asked)
                    if told is None:
                        break
                    machine.answer(told)
                self.assertEqual(machine.outcome(), outcome)
                self.assertEqual(requests, meaning.requests)

    def test_saved_and_resumed(self):
        for seed in range(150):
            rng = random.Random(seed)
            program = self.program(seed, rng)
            codes = compile_program(program)
            name, params = program[0][1:3]
            values = [random_value(rng, kind, True) for _, kind in params]
            one, other = Machine(codes, name, values), Machine(codes, name, values)
            first, second = answers_of(seed, program, 8), answers_of(seed, program, 8)
            for _ in range(250):
                kept = other.saved()
                twin = resumed(codes, kept)
                other = resumed(codes, kept)
                for machine in (other, twin):
                    self.assertEqual(
                        (machine.frames(), machine.outcome(), machine.steps, machine.saved(), machine.asked),
                        (one.frames(), one.outcome(), one.steps, one.saved(), one.asked))
                self.assertIsInstance(kept, tuple)
                self.assertEqual(mutable_ids(kept), set())
                again = copy.deepcopy(kept)
                if one.asked is not None:
                    told = first(one.asked)
                    self.assertEqual(told, second(one.asked))
                    if told is None:
                        break
                    for machine in (one, other, twin):
                        machine.answer(told)
                elif one.outcome() is None:
                    for machine in (one, other):
                        machine.step()
                    twin.run(1)
                else:
                    break
                self.assertEqual(twin.saved(), one.saved())
                self.assertEqual(kept, again)

    def test_machines_that_are_the_same(self):
        # What a frame has taken for a call or a request is gone when that is over.
        program = read_program(
            "fn f(a: int): int { let b = await act pay(a): int; return g(b); } fn g(a: int): int { return 5; }")
        codes = compile_program(program)
        machines = [Machine(codes, "f", [("int", n)]) for n in (1, 1)]
        for machine in machines:
            machine.run(9)
            machine.answer(("ok", TWO))
        self.assertEqual(machines[0].saved(), machines[1].saved())
        machines[0].run(3)
        for _ in range(3):
            machines[1].run(1)
        self.assertEqual(machines[0].saved(), machines[1].saved())
        self.assertNotEqual(machines[0].saved(), Machine(codes, "f", [ONE]).saved())
        ended = [Machine(codes, "g", [("int", n)]) for n in (1, 2)]
        for machine in ended:
            machine.run(9)
        self.assertEqual(ended[0].saved(), ended[1].saved())
        self.assertEqual(resumed(codes, ended[0].saved()).run(5), ("done", ("int", 5)))


class TestBounds(unittest.TestCase):
    def check_steps(self, program, codes, paper, name, machine, answers):
        """Runs a machine and checks how many steps it takes from each place of its first function on."""
        places = []
        while True:
            if machine.asked is not None:
                machine.answer(answers(machine.asked))
            elif machine.outcome() is not None:
                break
            else:
                if len(machine.frames()) == 1:
                    places.append((machine.frames()[0][1], machine.steps))
                machine.step()
        ends = machine.outcome()[0] == "failed"
        for place, steps in places:
            self.assertLessEqual(machine.steps - steps, paper[name][place][ends])
        return machine.steps

    def test_random_programs(self):
        tight = 0
        for seed in range(300):
            rng = random.Random(seed)
            program = Maker(rng, loops=seed % 4 == 0, rings=seed % 4 == 1).program()
            codes, paper, most = compile_program(program), step_paper(program), most_steps(program)
            for _, name, params, _, _ in program:
                if name in bounded(program):
                    self.assertIn(name, ending(program))
                    values = [random_value(rng, kind, True) for _, kind in params]
                    machine = Machine(codes, name, values)
                    steps = self.check_steps(program, codes, paper, name, machine, answers_of(seed, program, 10 ** 6))
                    self.assertLessEqual(steps, most[name])
                    tight += steps == most[name]
        self.assertGreater(tight, 100)

    def test_every_answer_and_failure(self):
        texts = (
            "fn f(a: int): int { try { let b = await act pay(a): int; return 6 / b; } catch c { return c + now; } }",
            "fn f(a: int): int { if random(a) < 1 { return g(a); } try { return g(now); } catch c { fail c; } } "
            "fn g(a: int): int { do await timer(a); return 10 / a; }",
            "fn f(a: int): int { try { try { do g(a); } catch c { do g(c); } } catch d { return d; } return 1; } "
            "fn g(a: int): int { if await signal go: bool { fail 300; } return a; }")
        for source in texts:
            program = read_program(source)
            codes, paper, most = compile_program(program), step_paper(program), most_steps(program)
            greatest = 0
            for n in (-1, 0, 1, 2):
                waiting = [[]]
                while waiting:
                    given = waiting.pop()
                    machine = Machine(codes, "f", [("int", n)])
                    left = list(given)
                    outcome = machine.run(1000)
                    while outcome[0] == "waits" and left:
                        machine.answer(left.pop(0))
                        outcome = machine.run(1000)
                    if outcome[0] != "waits":
                        answers = iter(given)
                        machine = Machine(codes, "f", [("int", n)])
                        steps = self.check_steps(program, codes, paper, "f", machine, lambda request: next(answers))
                        greatest = max(greatest, steps)
                        continue
                    good = {"act": [("int", 0), ONE], "timer": [NONE], "signal": [TRUE, FALSE], "now": [("int", 0), TWO]}
                    if outcome[1][0] == "random":
                        good["random"] = [("int", 0), ("int", outcome[1][1] - 1)]
                    good = good[outcome[1][0]]
                    waiting += [given + [("ok", value)] for value in good] + [given + [("failed", 404)]]
            self.assertEqual(greatest, most["f"])


def with_changes(rng, rows):
    """Code with some instructions otherwise, left out or more."""
    rows = list(rows)
    for _ in range(rng.choice([0, 1, 1, 2])):
        at = rng.randrange(len(rows))
        way = rng.randrange(5)
        if way == 0 and len(rows) > 1:
            rows = [shifted(row, at, -1) for k, row in enumerate(rows) if k != at]
        elif way == 1:
            new = rng.choice([
                ("push", ONE), ("push", TRUE), ("drop",), rng.choice(rows), ("get", 0), ("put", 0), ("unguard",),
                ("guard", rng.randrange(len(rows)), 0), ("jump", rng.randrange(len(rows))), ("op", "+"), ("ask", "now")])
            rows = [shifted(row, at, 1) for row in rows]
            rows.insert(at, new)
        elif way == 2:
            rows[at] = rng.choice(rows)
        elif rows[at][0] in ("jump", "unless", "guard"):
            rows[at] = (rows[at][0], rng.randrange(len(rows)), *rows[at][2:])
        else:
            rows[at] = rng.choice([("op", rng.choice("+-*/&=<")), ("push", TWO), ("drop",), ("list", "int", 1), ("not",)])
    return rows


def shifted(row, at, by):
    if row[0] in ("jump", "unless", "guard") and row[1] > at:
        return (row[0], row[1] + by, *row[2:])
    return row


class TestVerifiedCode(Case):
    def check_state(self, codes, paper, frame, is_inner):
        """Checks a frame against the state that the paper tells of its place."""
        name, at, slots, stack, guards = frame
        self.assertEqual(len(slots), codes[name][3])
        for value in list(stack) + [value for value in slots if value is not None]:
            self.assertTrue(is_value(value))
        if not is_inner:
            return
        kinds, told, held = paper[name][at]
        self.assertEqual(guards, held)
        self.assertEqual(len(stack), len(kinds))
        for value, kind in zip(stack, kinds):
            self.assertTrue(is_of(value, kind))
        for value, kind in zip(slots, told):
            if kind is not None:
                self.assertTrue(is_of(value, kind))

    def test_states_fit(self):
        changed = 0
        for seed in range(1500):
            rng = random.Random(seed)
            program = Maker(rng, rings=seed % 2 == 0).program()
            codes, sorts = compile_program(program), signatures(program)
            name = rng.choice(sorted(codes))
            other = ("code", *codes[name][1:4], with_changes(rng, codes[name][4]))
            is_changed = other != codes[name]
            codes[name] = other
            try:
                paper = verify(codes, sorts)
            except VerifyError:
                continue
            changed += is_changed
            answers = answers_of(seed, program, 9)
            params = sorts[name][0]
            machine = Machine(codes, name, [random_value(rng, kind, True) for kind in params])
            for _ in range(200):
                if machine.asked is not None:
                    told = answers(machine.asked)
                    if told is None:
                        break
                    machine.answer(told)
                elif machine.outcome() is None:
                    machine.step()
                else:
                    break
                frames = machine.frames()
                for k, frame in enumerate(frames):
                    self.check_state(codes, paper, frame, k == len(frames) - 1 and machine.asked is None)
            if machine.outcome() is not None and machine.outcome()[0] == "done":
                self.assertTrue(is_of(machine.outcome()[1], sorts[name][1]))
        self.assertGreater(changed, 150)


if __name__ == "__main__":
    unittest.main()
