import copy
import random
import unittest

from flowreprise.checking import check_program
from flowreprise.errors import CheckError
from flowreprise.judging import first_wrong
from flowreprise.meaning import run
from flowreprise.releases import Fleet, first_difference, may_move
from flowreprise.states import state_of
from flowreprise.trees import read_expression, read_program
from tests.helper import KINDS, Maker, Moved, check_untouched, has_kind, mutable_ids, random_value, told_of, wanted_kind
from tests.test_steps import event_by_words

ONE, NONE = ("int", 1), ("nothing",)
SUB = " fn sub(n: int): int { return await act low(n): int; }"
THREE = ("fn main(n: int): int { let a = await act pay(n): int; let b = await signal go: int; do await timer(b); "
         "return a + b; }" + SUB)


def program_of(text):
    program = read_program(text if "fn sub" in text else text + SUB)
    check_program(program)
    return program


def flow_of(*answers, name="main", given=(("int", 7),), end=None):
    """A flow with answers."""
    state = state_of([("begin", 1, name, list(given), None), *[("answer", 1, answer, None) for answer in answers]])
    state.flows[1].end = end
    return state.flows[1]


def requests_of(program, flow, index):
    """The outcome and the requests of a flow with so many answers."""
    given = list(flow.answers[:index])
    meaning = Moved(program, lambda request: given.pop(0) if given else None, 60)
    return meaning.run(flow.function, flow.given), meaning.requests


def difference_by_words(program, other, flow):
    """The first difference by the words of point 88, request by request."""
    for index in range(len(flow.answers) + 1):
        one, its = requests_of(program, flow, index)
        two, others = requests_of(other, flow, index)
        its, others = its[index:], others[index:]
        if its != others:
            return index
        if not its:
            return None if one == two else index
    return None


def may_by_words(program, other, flow):
    heads = [[([kind for _, kind in row[2]], row[3]) for row in rows if row[1] == flow.function] for rows in (program, other)]
    return flow.end is None and heads[1] != [] and heads[0] == heads[1] and difference_by_words(program, other, flow) is None


OKS = (("ok", ("int", 4)), ("ok", ("int", 2)), ("ok", NONE))


class TestDifferences(unittest.TestCase):
    def check(self, text, other, many, wanted, moves=None):
        """Checks the first difference of a flow with so many answers."""
        flow = flow_of(*OKS[:many])
        program, fresh = program_of(text), program_of(other)
        for end in (None, ("done", ONE)):
            flow.end = end
            before = copy.deepcopy(vars(flow))
            for one, two in ((program, fresh), (fresh, program)):
                told = check_untouched(self, lambda *both: first_difference(*both, flow), one, two)
                self.assertEqual(told, wanted)
                self.assertEqual(difference_by_words(one, two, flow), wanted)
                may = check_untouched(self, lambda *both: may_move(*both, flow), one, two)
                self.assertIs(may, end is None and (wanted is None if moves is None else moves))
            self.assertEqual(vars(flow), before)
        self.assertEqual(first_difference(program, program, flow), None)

    def test_same(self):
        for many in range(4):
            self.check(THREE, THREE, many, None)
            self.check(THREE, THREE.replace("let a", "let z").replace("a + b", "z + b"), many, None)
            self.check(THREE, THREE.replace("let a", "do 5; let c = n * n; let a"), many, None)
            self.check(THREE, THREE.replace("main(n: int)", "main(m: int)").replace("pay(n)", "pay(m)"), many, None)

    def test_a_request_otherwise_at_each_place(self):
        for index, (old, fresh) in enumerate((
                ("pay(n): int", "send(n): int"), ("signal go: int", "signal stop: int"), ("timer(b)", "timer(b + 1)"))):
            for many in range(4):
                # Behind a difference, requests are not looked at.
                self.check(THREE, THREE.replace(old, fresh), many, index if many >= index else None)
        for old, fresh in (("pay(n)", "pay(n + 1)"), ("await act pay(n): int", "size(await act pay(n): text)"),
                           ("await act pay(n): int", "await flow sub(n)"), ("await act pay(n): int", "now"),
                           ("await act pay(n): int", "random(n)"), ("await act pay(n): int", "await signal pay: int"),
                           ("await act pay(n): int", "1 + 1"), ("await act pay(n): int", "1 / 0")):
            for many in range(2):
                self.check(THREE, THREE.replace(old, fresh), many, 0)
        for kind in ("bool", "text", "[int]"):
            wanted = THREE.replace("let b = await signal go: int;", f"let d = await signal go: {kind}; let b = 2;")
            for many in range(2):
                self.check(THREE, wanted, many, 1 if many else None)

    def test_a_request_more_or_less_at_each_place(self):
        for index, before in enumerate(("let a", "let b", "do await timer", "return")):
            for more in ("do now;", "do await act pay(99): int;", "do await flow sub(n);"):
                for many in range(4):
                    self.check(THREE, THREE.replace(before, more + " " + before), many, index if many >= index else None)
        for index, old in enumerate(("await act pay(n): int", "await signal go: int", "do await timer(b);")):
            less = THREE.replace(old, "" if old.startswith("do") else "1")
            for many in range(4):
                self.check(THREE, less, many, index if many >= index else None)

    def test_other_outcomes_alone(self):
        for fresh in ("return a - b;", "fail 404;", "fail a;", "let k = 0; while k < 99 { set k = k + 1; } return a + b;",
                      "return 1 / 0;"):
            for many in range(4):
                self.check(THREE, THREE.replace("return a + b;", fresh), many, 3 if many == 3 else None)
        self.check("fn main(n: int): int { return n; }", "fn main(n: int): int { return n + 1; }", 0, 0)
        self.check("fn main(n: int): int { return n; }", "fn main(n: int): int { return n; }", 0, None)
        self.check("fn main(n: int): int { return n; }", "fn main(n: int): int { return 7; }", 0, None)
        # Answers behind the last request have no effect.
        self.check("fn main(n: int): int { return n; }", "fn main(n: int): int { return n; }", 3, None)
        self.check("fn main(n: int): int { return now; }", "fn main(n: int): int { return now + 1; }", 3, 1)

    def test_sixty_statements(self):
        # The statements in front, the "if" counted, and then "let".
        for rows, wanted in ((59, None), (60, 0)):
            more = THREE.replace("let a", "do 1; " * 40 + "if true { " + "do 1; " * (rows - 41) + "} let a")
            self.check(THREE, more, 0, wanted)

    def test_failed_answers(self):
        old = "fn main(n: int): int { try { return await act pay(n): int; } catch c { return await act log(c): int; } }"
        program = program_of(old)
        for fresh, answer, wanted in (
                ("log(c)", ("failed", 404), None), ("log(c + 0)", ("failed", 404), None), ("log(c + 1)", ("failed", 404), 1),
                ("log(c + 1)", ("ok", ONE), None), ("log(404)", ("failed", 404), None), ("log(404)", ("failed", 405), 1)):
            other = program_of(old.replace("log(c)", fresh))
            self.assertEqual(first_difference(program, other, flow_of(answer)), wanted)
            self.assertEqual(difference_by_words(program, other, flow_of(answer)), wanted)

    def test_answers_behind_a_difference_are_not_given(self):
        # The answer, a text, would be no integer for the other program.
        one = program_of("fn main(n: int): int { let a = await act pay(n): text; return size(a); }")
        other = program_of("fn main(n: int): int { let a = await act pay(n): int; return a + 1; }")
        for answer in (("ok", ("text", "abc")), ("failed", 404)):
            for pair in ((one, other), (other, one)):
                self.assertEqual(first_difference(*pair, flow_of(answer)), 0)
                self.assertFalse(may_move(*pair, flow_of(answer)))

    def test_types_of_functions(self):
        wait = "fn main(n: int): int { do await signal go: int; return 1; }"
        program = program_of(wait)
        for fresh, moves in (
                (wait, True), (wait.replace("n: int", "m: int"), True), (wait.replace("n: int", "n: text"), False),
                (wait.replace("n: int", "n: int, m: int"), False), (wait.replace("n: int", ""), False),
                (wait.replace("n: int", "n: [int]"), False),
                (wait.replace("): int", "): bool").replace("return 1", "return true"), False),
                (wait.replace("): int", "): [int]").replace("return 1", "return [int: 1]"), False)):
            other = program_of(fresh)
            for one, two in ((program, other), (other, program)):
                self.assertIsNone(first_difference(one, two, flow_of()))
                self.assertIs(may_move(one, two, flow_of()), moves)

    def test_functions_with_other_parameters(self):
        """The runs are compared with the values of the flow, whatever parameters the functions have."""
        text = "fn main(n: int): int { let a = await act pay(n): int; return a + n; }"
        program = program_of(text)
        for params, use, wanted in (
                ("n: int, m: int", "n", (None, None)), ("n: int, m: int", "m", (0, 0)), ("m: int", "m", (None, None)),
                ("n: text", "size(n)", (0, 0)), ("n: text", "n", (None, 1)), ("", "7", (None, None)),
                ("m: bool, n: int", "5", (0, 0)), ("n: int, m: int", "n + 0 * m", (0, 0))):
            kind = {"n: text": "0"}.get(params, use)
            other = program_of(f"fn main({params}): int {{ let a = await act pay({use}): int; return a + {kind}; }}")
            for many in (0, 1):
                flow = flow_of(*OKS[:many])
                for pair in ((program, other), (other, program)):
                    self.assertEqual(first_difference(*pair, flow), wanted[many], (params, use))
                    self.assertEqual(difference_by_words(*pair, flow), wanted[many])
                    self.assertIs(may_move(*pair, flow), params == "m: int")

    def test_functions_that_are_not_there(self):
        program, other = program_of(THREE), program_of("fn other(n: int): int { return n; }")
        self.assertFalse(may_move(program, other, flow_of()))
        self.assertFalse(may_move(other, program, flow_of(name="other")))

    def test_flows_whose_values_have_other_types(self):
        """A request for a flow does not tell the type of its value (point 71)."""
        for use in ("do await flow sub(n);", "let b = await flow sub(n);", "if n < 0 { } else { let c = await flow sub(n); }",
                    "do true and (await flow sub(n)) = (await flow sub(n));"):
            texts = ["fn main(n: int): int { let a = 1; " + use + " return a; } fn sub(n: int): " + rest for rest in (
                "int { return n; }", "int { return n + 1; }", "text { return text(n); }", "[int] { return [int: n]; }",
                "nothing { return nothing; }", "bool { return n < now; }")]
            for text in texts:
                for other in texts:
                    one, two = program_of(text), program_of(other)
                    for answers in ((), (("failed", 404),), (("ok", ONE),), (("ok", ("text", "a")),), (("ok", ONE),) * 2):
                        flow = flow_of(*answers)
                        self.assertIsNone(first_difference(one, two, flow))
                        self.assertIsNone(difference_by_words(one, two, flow))
                        self.assertIs(may_move(one, two, flow), True)
                    self.assertIs(may_move(one, two, flow_of(end=("done", ONE))), False)

    def test_flows_whose_values_are_not_what_the_other_program_needs(self):
        one = program_of("fn main(n: int): int { return 1 + await flow sub(n); } fn sub(n: int): int { return n; }")
        other = program_of("fn main(n: int): int { return size(await flow sub(n)); } fn sub(n: int): text { return text(n); }")
        third = program_of("fn main(n: int): int { return 2 + size(await flow sub(n)); } fn sub(n: int): text { return \"\"; }")
        for answers, wanted in (((), None), ((("failed", 404),), None), ((("ok", ONE),), 1), ((("ok", ("text", "")),), 1)):
            flow = flow_of(*answers)
            for two in (other, third):
                for pair in ((one, two), (two, one)):
                    self.assertEqual(first_difference(*pair, flow), wanted)
                    self.assertEqual(difference_by_words(*pair, flow), wanted)
                    self.assertIs(may_move(*pair, flow), wanted is None)
        # Both fail in the same way.
        self.assertIsNone(first_difference(other, third, flow_of(("ok", ONE))))

    def test_flows_with_other_functions_or_values(self):
        more = " fn aid(n: int): int { return n; } fn all(n: [int]): int { return size(n); }"
        text = "fn main(n: int): int { return await flow aid(n); }" + more
        for old, fresh in (("flow aid(n)", "flow sub(n)"), ("flow aid(n)", "flow aid(n + 1)"), ("flow aid(n)", "flow all([int:])"),
                           ("await flow aid(n)", "await act aid(n): int"), ("await flow aid(n)", "aid(n)")):
            for pair in ((text, text.replace(old, fresh)), (text.replace(old, fresh), text)):
                self.assertEqual(first_difference(program_of(pair[0]), program_of(pair[1]), flow_of()), 0)
        # An empty list is the same value, whatever the types of the parameters are.
        one = program_of(text.replace("flow aid(n)", "flow all([int:])"))
        other = program_of(text.replace("flow aid(n)", "flow all([bool:])").replace("all(n: [int])", "all(n: [bool])"))
        self.assertIsNone(first_difference(one, other, flow_of()))


class Watched:
    """A fleet beside what is told of it by the words of points 87 and 88."""

    def __init__(self, case, program):
        self.case = case
        self.fleet = Fleet(program)
        self.programs = [None, program]
        self.versions = {}
        self.events = []

    def check(self):
        fleet, case = self.fleet, self.case
        case.assertEqual(fleet.events, self.events)
        case.assertEqual(told_of(fleet.state), told_of(state_of(self.events)))
        case.assertEqual(fleet.versions, self.versions)
        case.assertEqual(fleet.programs, dict(list(enumerate(self.programs))[1:]))
        for number, flow in fleet.state.flows.items():
            program = self.programs[self.versions[number]]
            meant, _ = run(program, flow.function, flow.given, flow.answers, 60)
            if flow.end is None and meant[0] != "waits":
                case.assertEqual(event_by_words(program, fleet.state, number, Moved), ("end", number, meant))

    def keep(self, event):
        check_untouched(self.case, self.fleet.keep, event)
        self.take(event)

    def take(self, event):
        self.events.append(event)
        if event[0] == "begin":
            self.versions[event[1]] = len(self.programs) - 1 if event[4] is None else self.versions[event[4]]

    def begin(self, name, values):
        number = check_untouched(self.case, self.fleet.begin, name, values)
        self.case.assertEqual(number, len(self.versions) + 1)
        self.take(("begin", number, name, list(values), None))
        return number

    def deploy(self, program):
        self.programs.append(program)
        self.case.assertEqual(self.fleet.deploy(program), len(self.programs) - 1)

    def move(self, number, version):
        flow = self.fleet.state.flows.get(number)
        wanted = flow is not None and 0 < version < len(self.programs) and may_by_words(
            self.programs[self.versions[number]], self.programs[version], flow)
        before = copy.deepcopy((self.fleet.events, told_of(self.fleet.state)))
        self.case.assertIs(self.fleet.move(number, version), wanted)
        self.case.assertEqual((self.fleet.events, told_of(self.fleet.state)), before)
        if wanted:
            self.versions[number] = version
        self.case.assertEqual(self.fleet.versions, self.versions)
        return wanted

    def check_movable(self):
        rows = []
        for number, flow in sorted(self.fleet.state.flows.items()):
            program = self.programs[self.versions[number]]
            newer = [version for version in range(self.versions[number] + 1, len(self.programs))
                     if may_by_words(program, self.programs[version], flow)]
            rows += [(number, max(newer))] if newer else []
        told = self.fleet.movable()
        self.case.assertEqual(told, rows)
        return told

    def settle(self):
        """Checks that a settling takes in just the events of the passes of point 79."""
        state = state_of(self.events)
        is_new = True
        while is_new:
            is_new = False
            for number in sorted(state.flows):
                event = event_by_words(self.programs[self.versions[number]], state, number, Moved)
                while event is not None:
                    is_new = True
                    state.apply(event)
                    self.take(event)
                    event = event_by_words(self.programs[self.versions[number]], state, number, Moved)
        self.case.assertIsNone(self.fleet.settle())
        self.check()


class TestFleets(unittest.TestCase):
    def watched(self, text=THREE):
        return Watched(self, program_of(text))

    def test_new_one(self):
        program = program_of(THREE)
        fleet = Fleet(program)
        self.assertEqual((fleet.programs, fleet.versions, fleet.events, told_of(fleet.state)), ({1: program}, {}, [], (0, {})))
        fleet.settle()
        self.assertEqual((fleet.events, fleet.movable(), fleet.move(1, 1)), ([], [], False))
        self.assertEqual(fleet.deploy(program), 2)
        self.assertEqual(fleet.deploy(program), 3)
        self.assertEqual(sorted(fleet.programs), [1, 2, 3])

    def test_beginning_and_settling(self):
        watched = self.watched()
        watched.begin("main", [("int", 7)])
        watched.begin("sub", [ONE])
        watched.settle()
        self.assertEqual(watched.fleet.events[2:], [("attempt", 1, 1), ("attempt", 2, 1)])
        watched.keep(("answer", 1, ("ok", ("int", 4)), None))
        watched.keep(("signal", 1, "go", ("int", 2)))
        watched.settle()
        watched.keep(("tick", 2))
        watched.settle()
        self.assertEqual(watched.fleet.state.flows[1].end, ("done", ("int", 6)))
        self.assertIsNone(watched.fleet.state.flows[2].end)

    def test_values_are_not_shared(self):
        fleet, values = Fleet(program_of(THREE)), [ONE]
        fleet.begin("main", values)
        self.assertFalse(mutable_ids(values) & mutable_ids([fleet.events, list(vars(fleet.state.flows[1]).values())]))

    def test_versions_of_flows_and_children(self):
        parent = "fn main(n: int): int { return await flow sub(n); }"
        watched = self.watched(parent + SUB)
        watched.begin("main", [ONE])
        watched.deploy(program_of(parent + SUB.replace("low", "more")))
        watched.begin("main", [ONE])
        watched.settle()
        # Each child has the version of its parent.
        self.assertEqual(watched.fleet.versions, {1: 1, 2: 2, 3: 1, 4: 2})
        watched.deploy(program_of(parent + SUB))
        watched.begin("sub", [ONE])
        self.assertEqual(watched.fleet.versions[5], 3)
        # A child keeps its version when its parent moves.
        self.assertTrue(watched.move(1, 2))
        self.assertEqual((watched.fleet.versions[1], watched.fleet.versions[3]), (2, 1))
        self.assertFalse(watched.move(3, 2))
        self.assertTrue(watched.move(3, 3))

    def test_moving_before_and_behind_the_beginning_of_a_child(self):
        """A child keeps its version; what begins behind the move has the version of its parent."""
        old = "fn main(n: int): int { do await flow aid(n); return 1; } fn aid(n: int): int { do await signal go: int; return n; }"
        fresh = old.replace("aid(n: int): int", "aid(n: int): text").replace("return n", 'return "a"')
        for moment, child, value in ((0, 2, ("text", "a")), (1, 1, ("int", 7)), (2, 1, ("int", 7))):
            watched = self.watched(old)
            self.assertEqual(watched.begin("main", [("int", 7)]), 1)
            watched.deploy(program_of(fresh))
            for step in range(3):
                if step == moment:
                    self.assertEqual(watched.check_movable(), [(1, 2)])
                    self.assertTrue(watched.move(1, 2))
                if step == 1:
                    watched.keep(("signal", 2, "go", ONE))
                if step == 2 and moment == 2:
                    # The child has ended, and its parent has moved before it was answered.
                    watched.keep(("answer", 2, ("ok", ONE), 0))
                    watched.keep(("end", 2, ("done", ("int", 7))))
                watched.settle() if step == 0 or step == 2 else watched.check()
            self.assertEqual(watched.fleet.versions, {1: 2, 2: child})
            ends = [watched.fleet.state.flows[number].end for number in (2, 1)]
            self.assertEqual(ends, [("done", value), ("done", ONE)])

    def test_children_that_give_what_is_not_needed(self):
        old = 'fn main(n: int): int { return 1 + await flow aid(n); } fn aid(n: int): int { return n; }'
        fresh = ('fn main(n: int): int { try { return size("a" & await flow aid(n)); } catch c { return -c; } } '
                 'fn aid(n: int): text { return "bc"; }')
        for is_begun, end in ((False, 3), (True, -2)):
            watched = self.watched(old)
            watched.begin("main", [("int", 7)])
            watched.deploy(program_of(fresh))
            if is_begun:
                watched.keep(("begin", 2, "aid", [("int", 7)], 1))
            self.assertTrue(watched.move(1, 2))
            watched.settle()
            self.assertEqual(watched.fleet.state.flows[1].end, ("done", ("int", end)))

    def test_functions_of_the_newest_version(self):
        watched = self.watched("fn main(n: int): int { return n; } fn other(n: int): int { return n; }" + SUB)
        watched.begin("other", [ONE])
        watched.deploy(program_of(THREE))
        self.assertIsNone(watched.fleet.begin("other", [ONE]))
        self.assertIsNone(watched.fleet.begin("main", []))
        self.assertFalse(watched.move(1, 2))
        watched.check()
        watched.settle()
        self.assertEqual(watched.fleet.state.flows[1].end, ("done", ONE))

    def test_twenty_flows(self):
        watched = self.watched("fn main(n: int): int { return await flow sub(n); }" + SUB)
        for _ in range(19):
            watched.begin("main", [ONE])
        watched.settle()
        self.assertEqual(len(watched.fleet.state.flows), 20)
        self.assertEqual(watched.fleet.state.flows[2].end, ("failed", 4))

    def test_moving(self):
        watched = self.watched()
        watched.begin("main", [("int", 7)])
        watched.deploy(program_of(THREE.replace("return a + b", "return a - b")))
        watched.deploy(program_of(THREE.replace("go", "stop")))
        self.assertEqual(watched.check_movable(), [(1, 3)])
        # To the version that it has, to a newer one and to an older one.
        for version, may in ((1, True), (3, True), (3, True), (2, True), (1, True), (0, False), (4, False), (-1, False)):
            self.assertIs(watched.move(1, version), may)
        self.assertFalse(watched.move(2, 1))
        self.assertFalse(watched.move(0, 1))
        watched.settle()
        self.assertEqual(watched.check_movable(), [(1, 3)])
        watched.keep(("answer", 1, ("ok", ("int", 4)), None))
        # Now it waits for the signal, which is another one in the newest version.
        self.assertEqual(watched.check_movable(), [(1, 2)])
        self.assertFalse(watched.move(1, 3))
        self.assertTrue(watched.move(1, 2))
        self.assertEqual(watched.check_movable(), [])
        watched.keep(("signal", 1, "go", ("int", 2)))
        watched.settle()
        watched.keep(("tick", 5))
        watched.settle()
        self.assertEqual(watched.fleet.state.flows[1].end, ("done", ("int", 2)))
        for version in (1, 2, 3):
            self.assertFalse(watched.move(1, version))
        self.assertEqual(watched.check_movable(), [])

    def test_in_the_midst_of_each_request(self):
        """A flow moves while an attempt, a timer, a signal or a child is on its way."""
        text = ("fn main(n: int): int { let a = await act pay(n): int; do await timer(5); let b = await signal go: int; "
                "let c = await flow sub(b); return a + b + c; }" + SUB)
        for moment in range(9):
            watched = self.watched(text)
            watched.begin("main", [ONE])
            watched.deploy(program_of(text.replace("let a", "do 1; let a").replace("return a +", "return 1000 + a +")))
            steps = [lambda: watched.settle(), lambda: watched.keep(("sent", 1)), lambda: watched.keep(("lost", 1, 404)),
                     lambda: (watched.keep(("tick", 2)), watched.settle()),
                     lambda: (watched.keep(("answer", 1, ("ok", ("int", 10)), None)), watched.settle()),
                     lambda: (watched.keep(("tick", 6)), watched.settle()),
                     lambda: (watched.keep(("tick", 7)), watched.settle()),
                     lambda: (watched.keep(("signal", 1, "go", ("int", 20))), watched.settle()),
                     lambda: (watched.keep(("answer", 2, ("ok", ("int", 30)), None)), watched.settle())]
            for k, step in enumerate(steps):
                if k == moment:
                    self.assertTrue(watched.move(1, 2))
                step()
                watched.check()
            self.assertEqual(watched.fleet.state.flows[1].end, ("done", ("int", 1060)))
            self.assertEqual(watched.versions, {1: 2, 2: 2 if moment < 8 else 1})

    def test_histories_are_right_for_the_version(self):
        """The history of a flow that has moved is one that it might have had from the beginning."""
        watched = self.watched()
        watched.begin("main", [("int", 7)])
        watched.settle()
        watched.keep(("answer", 1, ("ok", ("int", 4)), None))
        other = program_of(THREE.replace("return a + b", "return b"))
        watched.deploy(other)
        watched.move(1, 2)
        watched.keep(("signal", 1, "go", ("int", 2)))
        watched.settle()
        watched.keep(("tick", 2))
        watched.settle()
        self.assertIsNone(first_wrong(other, watched.fleet.events))
        self.assertEqual(watched.fleet.state.flows[1].end, ("done", ("int", 2)))


# What a flow does with a value of a type.
USES = {
    "int": ["got + n", "-got * 2", "size(text(got))", "size([int: got])", "[int: 5, 6][got]"],
    "bool": ["size(text(got))", "size(text(not got or n < 2))", "size(text(got and true))", "size([bool: got, false])"],
    "text": ["size(got)", 'size("a" & got)', 'size(text(got < "b"))', "size([text: got])"],
    "nothing": ["size(text(got = nothing))", "size([nothing: got])"],
    ("list", "int"): ["got[0]", "size(got & [int: 1])", "-(got & [int: 1])[0]"],
    ("list", "text"): ["size(got[0])", "size(got)", 'size(got & [text: "a"])'],
    ("list", ("list", "int")): ["got[0][0]", "size(got)", "size(got & [[int]: [int: n]])"]}


class TestRandom(unittest.TestCase):
    def other_program(self, rng, program):
        """The same program, with a statement put in front or another end, or one made anew."""
        way = rng.random()
        at = rng.randrange(len(program))
        name, params, kind, body = program[at][1:]
        if way < 0.3:
            more = rng.choice([("do", ("int", 1)), ("do", ("now",)), ("let", "fresh", ("text", "")), ("do", (
                "await", "act", "pay", ("int", 5), "int"))])
            body = [more, *body]
        elif way < 0.6:
            body = [*body[:-1], rng.choice([("fail", ("int", 404)), ("while", ("bool", True), []), ("do", ("now",))]), body[-1]]
        elif way < 0.8:
            return list(program)
        else:
            return self.made_anew(rng, program)
        fresh = [*program[:at], ("fn", name, list(params), kind, body), *program[at + 1:]]
        try:
            check_program(fresh)
        except CheckError:
            return list(program)
        return fresh

    def made_anew(self, rng, program):
        """Another program whose functions have the types of the first one, but for some of them."""
        maker = Maker(rng)
        maker.heads = [(name, list(params), kind) for _, name, params, kind, _ in program]
        return [maker.function(at) if rng.random() < 0.6 else program[at] for at in range(len(program))]

    def test_first_differences(self):
        seen = {}
        for seed in range(600):
            rng = random.Random(seed)
            program = Maker(rng).program()
            others = [self.other_program(rng, program) for _ in range(2)]
            _, name, params, _, _ = rng.choice(program)
            flow = flow_of(name=name, given=[random_value(rng, kind, True) for _, kind in params])
            while len(flow.answers) < 8:
                for other in others:
                    told = check_untouched(self, lambda *both: first_difference(*both, flow), program, other)
                    self.assertEqual(told, difference_by_words(program, other, flow))
                    self.assertIs(may_move(program, other, flow), told is None)
                    seen[told] = seen.get(told, 0) + 1
                outcome, _ = requests_of(program, flow, len(flow.answers))
                if outcome[0] != "waits":
                    break
                flow.answers.append(self.answer(rng, program, outcome[1]))
        self.assertGreater(min(seen[None], seen[0], seen[1]), 20, seen)

    def kindly(self, rng, kind):
        """A program whose flow waits for another one, which gives a value of a type, and uses it by chance."""
        tree = ("await", "flow", "aid", [("var", "n")])
        maker = Maker(rng, asking=False)
        maker.heads, maker.at = [], 0
        body = [("let", "got", tree), ("do", ("await", "signal", "go", "int"))]
        use = rng.choice([maker.tree("int", {"n": "int", "got": kind}, 3), *[read_expression(told) for told in USES[kind]]])
        body = [*body, ("return", use)] if rng.random() < 0.7 else [body[0], ("return", use)]
        if rng.random() < 0.2:
            body = [("try", body, "c", [("return", ("var", "c"))])]
        rows = [("do", ("await", "timer", ("int", rng.choice([1, 2]))))] if rng.random() < 0.8 else []
        program = [("fn", "main", [("n", "int")], "int", body), ("fn", "aid", [("n", "int")], kind, [
            *rows, ("return", maker.tree(kind, {"n": "int"}, 2))])]
        check_program(program)
        return program

    def test_fleets_with_other_types_of_children(self):
        seen = {"moved": 0, "stayed": 0, "strays": 0, "failed": 0}
        for seed in range(600):
            rng = random.Random(seed)
            watched = Watched(self, self.kindly(rng, rng.choice(KINDS)))
            for _ in range(18):
                way = rng.random()
                if way < 0.08 or not watched.versions:
                    watched.begin("main", [random_value(rng, "int", True)])
                elif way < 0.35 and len(watched.programs) < 6:
                    watched.deploy(self.kindly(rng, rng.choice(KINDS)))
                elif way < 0.6:
                    number, version = rng.randint(1, len(watched.versions)), rng.randint(1, len(watched.programs) - 1)
                    self.check_requests(watched, number, lambda: watched.move(number, version), seen)
                elif way < 0.8:
                    watched.settle()
                elif way < 0.9:
                    watched.keep(("tick", watched.fleet.state.moment + 1))
                else:
                    watched.keep(("signal", 1, "go", ONE)) if watched.fleet.state.flows[1].end is None else None
                watched.check()
                watched.check_movable()
            for number, flow in watched.fleet.state.flows.items():
                program = watched.programs[watched.versions[number]]
                if flow.function == "main" and flow.answers and flow.answers[0][0] == "ok" and not has_kind(
                        flow.answers[0][1], program[1][3]):
                    seen["strays"] += 1
                    seen["failed"] += flow.end == ("failed", 2)
        self.assertGreater(min(seen.values()), 20, seen)

    def answer(self, rng, program, request):
        if rng.random() < 0.15:
            return ("failed", 404)
        kinds = {row[1]: row[3] for row in program}
        word = request[0]
        kind = {"act": request[-1], "signal": request[-1], "timer": "nothing"}.get(word, "int")
        kind = kinds[request[1]] if word == "flow" else kind
        return ("ok", ("int", 0)) if word == "random" else ("ok", random_value(rng, kind, True))

    def test_fleets(self):
        seen = {"moved": 0, "stayed": 0, "ends": 0, "events": 0}
        for seed in range(150):
            rng = random.Random(seed)
            program = Maker(rng).program() if seed % 3 == 0 else program_of(THREE if seed % 3 == 1 else """
                fn main(n: int): int { let a = await act pay(n): int; do await timer(3); return a + await flow sub(a); }
                fn sub(n: int): int { try { return await signal go: int; } catch c { return c + now; } }""")
            watched = Watched(self, program)
            for _ in range(35):
                self.deed(rng, watched, seen)
                watched.check()
            watched.check_movable()
            for number, flow in watched.fleet.state.flows.items():
                seen["ends"] += flow.end is not None
            seen["events"] += len(watched.events)
        self.assertGreater(min(seen["moved"], seen["stayed"], seen["ends"]), 60, seen)

    def deed(self, rng, watched, seen):
        fleet, way = watched.fleet, rng.random()
        flows = fleet.state.flows
        if way < 0.15 or not flows:
            _, name, params, _, _ = rng.choice(watched.programs[-1])
            if len(flows) < 20:
                watched.begin(name, [random_value(rng, kind, True) for _, kind in params])
        elif way < 0.3 and len(watched.programs) < 7:
            watched.deploy(self.other_program(rng, rng.choice(watched.programs[1:])))
        elif way < 0.5:
            number, version = rng.randrange(len(flows) + 2), rng.randrange(-1, len(watched.programs) + 1)
            if number in flows:
                self.check_requests(watched, number, lambda: watched.move(number, version), seen)
            else:
                watched.move(number, version)
        elif way < 0.6:
            watched.check_movable()
        elif way < 0.8:
            watched.settle()
        elif way < 0.88:
            watched.keep(("tick", fleet.state.moment + rng.choice([0, 1, 3, 10])))
        else:
            self.come(rng, watched)

    def check_requests(self, watched, number, move, seen):
        """Checks that a flow that moves has made the same requests as before."""
        flow = watched.fleet.state.flows[number]
        before = run(watched.programs[watched.versions[number]], flow.function, flow.given, flow.answers, 60)
        told = move()
        after = run(watched.programs[watched.versions[number]], flow.function, flow.given, flow.answers, 60)
        self.assertEqual(before, after)
        seen["moved" if told else "stayed"] += 1

    def come(self, rng, watched):
        """Lets an answer or a signal come, or calls a flow off."""
        flows = watched.fleet.state.flows
        going = [number for number, flow in flows.items() if flow.end is None]
        if not going:
            return
        number = rng.choice(going)
        kind = wanted_kind(watched.programs[watched.versions[number]], flows[number]) or "int"
        value = random_value(rng, kind, True)
        if flows[number].attempt and flows[number].lost is None and rng.random() < 0.7:
            watched.keep(rng.choice([("answer", number, ("ok", value), None), ("lost", number, 404)]))
        elif rng.random() < 0.15:
            watched.keep(("off", number))
        else:
            watched.keep(("signal", number, rng.choice(["go", "stop"]), value))


if __name__ == "__main__":
    unittest.main()
