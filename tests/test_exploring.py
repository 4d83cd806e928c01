import random
import unittest

from flowreprise.exploring import always, leaves, outcomes
from flowreprise.meaning import run
from flowreprise.trees import read_program
from tests.helper import KINDS, Maker, check_untouched, random_value

ONE, TWO, NONE = ("int", 1), ("int", 2), ("nothing",)
WORDS = [("act", "pay"), ("act", "send"), ("signal", "go"), ("signal", "stop"), ("timer", None), ("now", None),
         ("random", None), ("flow", None)]


def ok(value):
    return ("ok", value)


def done(n):
    return ("done", ("int", n))


def read(body, others=""):
    return read_program(f"fn f(n: int): int {{ {body} }} {others}")


def has_kind(value, kind):
    if isinstance(kind, tuple):
        return value[0] == "list" and all(has_kind(one, kind[1]) for one in value[1])
    return value[0] == kind


def leaves_by_words(program, name, values, choices, depth, most, answers=()):
    """The leaves of point 89, from the inside."""
    outcome, _ = run(program, name, values, list(answers), most)
    fitting = []
    if outcome[0] == "waits" and len(answers) < depth:
        request = outcome[1]
        key = (request[0], request[1] if request[0] in ("act", "signal") else None)
        for answer in choices.get(key, []):
            if key[1] is None or answer[0] == "failed" or has_kind(answer[1], request[-1]):
                fitting.append(answer)
    if not fitting:
        return [(list(answers), outcome)]
    return [leaf for answer in fitting for leaf in leaves_by_words(
        program, name, values, choices, depth, most, (*answers, answer))]


class Case(unittest.TestCase):
    def explore(self, program, choices, depth=5, most=60, values=(("int", 7),), name="f"):
        """The leaves and the outcomes, checked by the words of the points."""
        arguments = (program, name, list(values), choices, depth, most)
        found = check_untouched(self, leaves, *arguments)
        self.assertEqual(found, leaves_by_words(*arguments))
        told = check_untouched(self, outcomes, *arguments)
        wanted = []
        for _, outcome in found:
            if outcome not in [row[0] for row in wanted]:
                same = [answers for answers, other in found if other == outcome]
                wanted.append((outcome, min(same, key=len)))
        self.assertEqual(told, wanted)
        self.check_always(arguments, found)
        return found, told

    def check_always(self, arguments, found):
        every = [outcome for _, outcome in found]
        self.assertIsNone(check_untouched(self, always, *arguments, every))
        for outcome in every:
            wanted = [other for other in every if other != outcome]
            against = [answers for answers, other in found if other[0] != "waits" and other not in wanted]
            self.assertEqual(check_untouched(self, always, *arguments, wanted), against[0] if against else None)


class TestExample(unittest.TestCase):
    def test_example(self):
        program = [("fn", "main", [], "int", [
            ("return", ("op", "/", ("int", 6), ("await", "act", "ask", ("int", 1), "int")))])]
        choices = {("act", "ask"): [("ok", ("int", 2)), ("ok", ("int", 0)), ("failed", 404)]}
        self.assertEqual(outcomes(program, "main", [], choices, 3, 50), [
            (("done", ("int", 3)), [("ok", ("int", 2))]), (("failed", 1), [("ok", ("int", 0))]),
            (("failed", 404), [("failed", 404)])])
        self.assertEqual(
            always(program, "main", [], choices, 3, 50, [("done", ("int", 3)), ("failed", 404)]), [("ok", ("int", 0))])


class TestLeaves(Case):
    def test_without_requests(self):
        for body, outcome in (("return n;", done(7)), ("fail 300;", ("failed", 300)), ("while true { } return 1;", ("tired",))):
            for depth in (0, 3):
                self.assertEqual(self.explore(read(body), {("now", None): [ok(ONE)]}, depth), (
                    [([], outcome)], [(outcome, [])]))

    def test_each_kind_of_request(self):
        others = "fn g(a: int): int { return a; }"
        for source, key, right, other in (
                ("await act pay(n): int", ("act", "pay"), ONE, ("act", "send")),
                ("await signal go: int", ("signal", "go"), ONE, ("signal", "pay")),
                ("await flow g(n)", ("flow", None), ONE, ("flow", "g")), ("now", ("now", None), ONE, ("now", "n")),
                ("random(5)", ("random", None), ONE, ("random", 5))):
            program = read(f"return 10 + {source};", others)
            self.assertEqual(self.explore(program, {key: [ok(right), ("failed", 9)], other: [ok(TWO)]})[0], [
                ([ok(right)], done(11)), ([("failed", 9)], ("failed", 9))])
            found = self.explore(program, {other: [ok(TWO)]})[0]
            self.assertEqual([(answers, outcome[0]) for answers, outcome in found], [([], "waits")])
            self.assertEqual(self.explore(program, {key: []})[0], found)
            self.assertEqual(self.explore(program, {key: [ok(right)]}, 0)[0], found)
        program = read("do await timer(n); return n;")
        self.assertEqual(self.explore(program, {("timer", None): [ok(NONE)]})[0], [([ok(NONE)], done(7))])

    def test_values_of_types_that_do_not_fit(self):
        rows = [ok(("text", "")), ok(ONE), ok(NONE), ("failed", 404), ok(("list", ())), ok(TWO), ok(("bool", True))]
        for source, key in (("await act pay(n): int", ("act", "pay")), ("await signal go: int", ("signal", "go"))):
            self.assertEqual([answers for answers, _ in self.explore(read(f"return {source};"), {key: rows})[0]], [
                [ok(ONE)], [("failed", 404)], [ok(TWO)]])
            found = self.explore(read(f"return {source};"), {key: [ok(NONE), ok(("text", ""))]})[0]
            self.assertEqual([(answers, outcome[0]) for answers, outcome in found], [([], "waits")])
        for kind, many in (("[int]", 2), ("[[int]]", 1), ("text", 1)):
            rows = [ok(("list", ())), ok(("list", (ONE,))), ok(("text", "a"))]
            found = self.explore(read(f"return size(await act pay(n): {kind});"), {("act", "pay"): rows})[0]
            self.assertEqual(len(found), many)

    def test_depths(self):
        program = read("let s = 0; while s < 9 { set s = s + 1 + random(2); } return s;")
        choices = {("random", None): [ok(("int", 0)), ok(ONE)]}
        for depth in range(9):
            found = self.explore(program, choices, depth)[0]
            self.assertEqual({outcome[0] for answers, outcome in found if len(answers) < depth} - {"done"}, set())
            self.assertTrue(all(len(answers) <= depth for answers, _ in found))
        self.assertEqual(len(self.explore(program, choices, 2)[0]), 4)
        self.assertEqual(len(self.explore(program, choices, 0)[0]), 1)

    def test_order(self):
        program = read("return 10 * await act pay(n): int + await act send(n): int;")
        choices = {("act", "pay"): [ok(TWO), ok(ONE)], ("act", "send"): [ok(("int", 5)), ("failed", 300), ok(ONE)]}
        self.assertEqual([outcome for _, outcome in self.explore(program, choices)[0]], [
            done(25), ("failed", 300), done(21), done(15), ("failed", 300), done(11)])

    def test_statements(self):
        program = read("let a = now; if a < 1 { return 1; } do 1; do 2; return 3;")
        choices = {("now", None): [ok(("int", 0)), ok(ONE)]}
        for most, wanted in ((0, [("tired",)]), (1, [("tired",), ("tired",)]), (3, [done(1), ("tired",)]),
                             (4, [done(1), ("tired",)]), (5, [done(1), done(3)])):
            self.assertEqual([outcome for _, outcome in self.explore(program, choices, 3, most)[0]], wanted)

    def test_many_answers(self):
        # As deep as a run with 1000 requests, of which each has one answer.
        program = read("let s = 0; while s < 1000 { set s = s + 1; do now; } return s;")
        found = leaves(program, "f", [ONE], {("now", None): [ok(ONE)]}, 40, 10 ** 6)
        self.assertEqual([(len(answers), outcome[0]) for answers, outcome in found], [(40, "waits")])


class TestOutcomes(Case):
    def test_lists_of_different_and_of_the_same_length(self):
        program = read("""
            let a = await act pay(n): int;
            if a < 1 { set a = await act pay(a): int; if a < 1 { return 5; } return 6; }
            return 5;""")
        choices = {("act", "pay"): [ok(("int", 0)), ok(TWO), ok(("int", 3))]}
        found, told = self.explore(program, choices)
        self.assertEqual([answers for answers, outcome in found if outcome == done(5)], [
            [ok(("int", 0))] * 2, [ok(TWO)], [ok(("int", 3))]])
        # The shortest list is told, and of two the first one, in the place of the first leaf.
        self.assertEqual(told, [(done(5), [ok(TWO)]), (done(6), [ok(("int", 0)), ok(TWO)])])

    def test_the_same_length(self):
        program = read("return 0 * now;")
        self.assertEqual(self.explore(program, {("now", None): [ok(TWO), ok(ONE)]})[1], [(done(0), [ok(TWO)])])

    def test_always(self):
        program = read("if now < 1 { return 1; } return await act pay(n): int;")
        choices = {("now", None): [ok(("int", 0)), ok(ONE)]}
        # A leaf that waits tells against nothing.
        self.assertIsNone(always(program, "f", [ONE], choices, 5, 60, [done(1)]))
        self.assertEqual(always(program, "f", [ONE], choices, 5, 60, []), [ok(("int", 0))])
        choices[("act", "pay")] = [ok(ONE), ok(TWO)]
        self.assertEqual(always(program, "f", [ONE], choices, 5, 60, [done(1)]), [ok(ONE), ok(TWO)])
        self.assertIsNone(always(program, "f", [ONE], choices, 5, 60, [done(2), done(1)]))
        self.assertIsNone(always(program, "f", [ONE], choices, 1, 60, [done(1)]))
        self.assertEqual(always(read("while true { } return 1;"), "f", [ONE], {}, 5, 60, [done(1)]), [])
        self.assertIsNone(always(read("while true { } return 1;"), "f", [ONE], {}, 5, 60, [("tired",)]))


def random_choices(rng, program):
    """Choices for all requests of a program, or most of them."""
    kinds = {kind for _, _, _, kind, _ in program}
    choices = {}
    for key in WORDS:
        if rng.random() < 0.1:
            continue
        rows = [("failed", rng.choice([5, 404]))] if rng.random() < 0.6 else []
        if key[0] in ("act", "signal"):
            rows += [ok(random_value(rng, kind, True)) for kind in KINDS]
        elif key[0] == "flow":
            # The value of a child has the type of its function.
            rows += [ok(random_value(rng, kind, True)) for kind in kinds if len(kinds) == 1]
        else:
            rows.append(ok({"timer": NONE, "random": ("int", 0), "now": ("int", rng.randrange(9))}[key[0]]))
        rng.shuffle(rows)
        choices[key] = rows
    return choices


class TestRandom(Case):
    def test_random_programs(self):
        several = 0
        for seed in range(400):
            rng = random.Random(seed)
            program = Maker(rng).program()
            choices = random_choices(rng, program)
            for _, name, params, _, _ in program:
                values = [random_value(rng, kind, True) for _, kind in params]
                found, _ = self.explore(program, choices, rng.randrange(6), 60, values, name)
                several += len(found) > 2
        self.assertGreater(several, 60)

    def test_each_run_with_answers_of_the_choices(self):
        """Each run with any answers of the choices that does not wait has the outcome of a leaf."""
        seen = 0
        for seed in range(300):
            rng = random.Random(seed)
            program = Maker(rng).program()
            choices = random_choices(rng, program)
            name, params = program[0][1:3]
            values = [random_value(rng, kind, True) for _, kind in params]
            told = [outcome for _, outcome in leaves(program, name, values, choices, 4, 60)]
            for _ in range(5):
                answers = []
                while True:
                    outcome, _ = run(program, name, values, answers, 60)
                    fitting = self.fitting(choices, outcome[1]) if outcome[0] == "waits" and len(answers) < 4 else []
                    if not fitting:
                        break
                    answers.append(rng.choice(fitting))
                if outcome[0] != "waits":
                    seen += len(answers) > 0
                    self.assertIn(outcome, told)
        self.assertGreater(seen, 100)

    def fitting(self, choices, request):
        rows = choices.get((request[0], request[1] if request[0] in ("act", "signal") else None), [])
        if request[0] in ("act", "signal"):
            return [row for row in rows if row[0] == "failed" or has_kind(row[1], request[-1])]
        return rows


if __name__ == "__main__":
    unittest.main()
