import random
import unittest

from flowreprise.bounds import bounded, ending, most_steps, paper_holds, step_paper
from flowreprise.code import may_fail
from flowreprise.compiling import compile_program
from flowreprise.effects import reached
from flowreprise.trees import read_program
from tests.helper import Maker, Meaning, Stepping, answers_of, check_untouched, random_value


def function(body, name="f", params="a: int"):
    return f"fn {name}({params}): int {{ {body} return 0; }} "


def steps_of(body):
    return step_paper(read_program(f"fn f(a: int): int {{ {body} }}"))["f"]


def all_ways(codes, name, at=0, guards=()):
    """The lengths of all ways from a place to a return, and to a failure, each as a set."""
    row = codes[name][4][at]
    word = row[0]
    if word == "return":
        return {1}, set()
    backs, outs = set(), set()
    going, failing = {1}, {1} if may_fail(row) else set()
    if word == "call":
        inner_backs, inner_outs = all_ways(codes, row[1])
        going, failing = {1 + n for n in inner_backs}, {1 + n for n in inner_outs}
    if word == "guard":
        guards = guards + (row[1],)
    after = guards[:-1] if word == "unguard" else guards
    places = {"jump": row[1:2], "unless": (at + 1, row[-1]), "fail": ()}.get(word, (at + 1,))
    for steps, rows in ((going, [(place, after) for place in places]), (failing, [(g, guards[:-1]) for g in guards[-1:]])):
        for place, held in rows:
            more_backs, more_outs = all_ways(codes, name, place, held)
            backs |= {n + m for n in steps for m in more_backs}
            outs |= {n + m for n in steps for m in more_outs}
    return backs, outs if guards else outs | failing


def greatest(numbers):
    return max(numbers, default=None)


class TestExample(unittest.TestCase):
    def test_example(self):
        program = read_program(
            "fn f(a: int): int { if a < 1 { return 0; } return g(a); } "
            "fn g(a: int): int { while true { } return 1; }")
        self.assertEqual(most_steps(program), {"f": None, "g": None})
        self.assertEqual(
            step_paper(read_program("fn h(): int { return 1 + 2; }")),
            {"h": [(4, 3), (3, 2), (2, 1), (1, None), None, None]})


class TestEndingAndBounded(unittest.TestCase):
    def check(self, text, ends, bounds):
        program = read_program(text)
        self.assertEqual(check_untouched(self, ending, program), ends)
        self.assertEqual(check_untouched(self, bounded, program), bounds)
        self.assertEqual(sorted(check_untouched(self, step_paper, program)), bounds)
        most = check_untouched(self, most_steps, program)
        self.assertEqual(sorted(most), sorted(row[1] for row in program))
        self.assertEqual(sorted(name for name in most if most[name] is not None), bounds)

    def test_loops(self):
        self.check(function(""), ["f"], ["f"])
        self.check(function("while true { }"), [], [])
        self.check(function("if true { try { } catch c { while true { } } }"), [], [])
        self.check(function("return 1; while true { }"), [], [])
        self.check(function("do g(1);") + function("do h(1);", "g") + function("while true { }", "h") + function("", "b"),
                   ["b"], ["b"])
        self.check(function("do await flow g(1);") + function("while true { }", "g"), ["f"], ["f"])

    def test_rings(self):
        self.check(function("do f(1);"), ["f"], [])
        self.check(function("do g(1);") + function("do h(1);", "g") + function("do g(1);", "h") + function("", "b"),
                   ["b", "f", "g", "h"], ["b"])
        self.check(function("do b(1);", "z") + function("", "b") + function("do f(1); do b(1);"), ["b", "f", "z"],
                   ["b", "z"])
        self.check(function("do f(1); while true { }"), [], [])
        self.check(function("do await flow f(1);"), ["f"], ["f"])


class TestSteps(unittest.TestCase):
    def test_plain(self):
        self.assertEqual(steps_of("return a;"), [(2, None), (1, None), None, None])
        self.assertEqual(steps_of("do now; return a;"), [(4, 1), (3, None), (2, None), (1, None), None, None])
        self.assertEqual(steps_of("fail a;"), [(None, 2), (None, 1), None, None])

    def test_both_ways(self):
        self.assertEqual(
            steps_of("if a < 1 { return 7; } return -a;"),
            [(7, None), (6, None), (5, None), (4, None), (2, None), (1, None), None, (3, None), (2, None), (1, None),
             None, None])
        self.assertEqual(
            steps_of("if true { fail 100; } else { return 1; }"),
            [(4, 4), (3, 3), (None, 2), (None, 1), None, (2, None), (1, None), None, None])

    def test_guards(self):
        # The failure of the quotient leads to the second body, and so does that of "fail".
        self.assertEqual(
            steps_of("try { return a / a; } catch c { return c; }"),
            [(6, None), (5, None), (4, None), (3, None), (1, None), None, None, (2, None), (1, None), None, None])
        self.assertEqual(
            steps_of("try { fail 200; } catch c { fail c; }"),
            [(None, 5), (None, 4), (None, 3), None, None, (None, 2), (None, 1), None, None])
        self.assertEqual(
            steps_of("try { do 1 + 1; } catch c { do c; } return a;"),
            [(9, None), (8, None), (7, None), (6, None), (5, None), (4, None), (3, None), (4, None), (3, None),
             (2, None), (1, None), None, None])

    def test_calls(self):
        paper = step_paper(read_program(
            "fn f(a: int): int { return 1 + g(a); } fn g(a: int): int { if a < 1 { fail 100; } return h(); } "
            "fn h(): int { return 5; }"))
        self.assertEqual(paper["h"], [(2, None), (1, None), None, None])
        self.assertEqual(paper["g"], [
            (8, 6), (7, 5), (6, 4), (5, 3), (None, 2), (None, 1), None, (4, None), (1, None), None, None])
        self.assertEqual(paper["f"], [(13, 12), (12, 11), (11, 10), (2, 1), (1, None), None, None])

    def test_calls_that_never_return(self):
        program = read_program(
            "fn f(a: int): int { try { return g(); } catch c { return now; } } fn g(): int { fail 100; } "
            "fn h(): int { return g() + 1; }")
        self.assertEqual(step_paper(program), {
            "f": [(6, 5), (5, 4), (1, None), None, None, (2, 1), (1, None), None, None],
            "g": [(None, 2), (None, 1), None, None],
            "h": [(None, 3), (3, 2), (2, 1), (1, None), None, None]})
        self.assertEqual(most_steps(program), {"f": 6, "g": 2, "h": 3})

    def test_greatest(self):
        program = read_program("fn f(a: int): int { if true { return 1; } do 1 + 2; do 3; do 4; fail 100; } ")
        self.assertEqual(step_paper(program)["f"][0], (4, 12))
        self.assertEqual(most_steps(program), {"f": 12})

    def test_all_ways(self):
        seen = 0
        for seed in range(1200):
            program = Maker(random.Random(seed), loops=False, rings=seed % 4 == 0).program()
            codes = compile_program(program)
            paper = check_untouched(self, step_paper, program)
            most = most_steps(program)
            for name, numbers in paper.items():
                if sum(row[0] in ("unless", "guard", "call", "op") for row in codes[name][4]) > 12:
                    continue
                if any(len(codes[other][4]) > 60 for other in reached(program, name)):
                    continue
                seen += 1
                backs, outs = all_ways(codes, name)
                self.assertEqual(numbers[0], (greatest(backs), greatest(outs)))
                self.assertEqual(most[name], greatest(backs | outs))
        self.assertGreater(seen, 500)

    def test_runs(self):
        tight = 0
        for seed in range(300):
            rng = random.Random(seed)
            program = Maker(rng, loops=False, rings=False).program()
            codes, most = compile_program(program), most_steps(program)
            paper = step_paper(program)
            for _, name, params, _, _ in program:
                values = [random_value(rng, kind, True) for _, kind in params]
                stepping = Stepping(codes, answers_of(seed, program, 50), 10 ** 6)
                outcome = stepping.run(name, values)
                if outcome[0] in ("done", "failed"):
                    self.assertLessEqual(stepping.steps, most[name])
                    self.assertLessEqual(stepping.steps, paper[name][0][outcome[0] == "failed"])
                    tight += stepping.steps == most[name]
        self.assertGreater(tight, 100)


class TestHolding(unittest.TestCase):
    def setUp(self):
        self.program = read_program(
            function("try { do g(a) + 1; } catch c { if c < 1 { fail c; } } return h(a);")
            + function("if a < 1 { fail 100; } do a * a;", "g") + function("do a;", "h")
            + function("do k(a);", "k") + function("while true { }", "m") + function("do m(a);", "n")
            + "fn u(): int { return 1; while true { } return 2; }")
        self.paper = step_paper(self.program)

    def holds(self, **rows):
        return check_untouched(self, paper_holds, self.program, {**self.paper, **rows})

    def test_papers_that_hold(self):
        self.assertEqual(sorted(self.paper), ["f", "g", "h"])
        self.assertIs(self.holds(), True)
        self.assertIs(paper_holds(self.program, {}), True)
        self.assertIs(paper_holds(self.program, {"h": self.paper["h"]}), True)
        self.assertIs(paper_holds(self.program, {name: self.paper[name] for name in "gh"}), True)

    def test_functions_that_are_reached_are_there(self):
        for names in ("f", "fg", "fh"):
            self.assertIs(paper_holds(self.program, {name: self.paper[name] for name in names}), False)

    def test_rings_and_loops(self):
        codes = compile_program(self.program)
        for name in "km":
            great = [(10 ** 6, 10 ** 6)] * len(codes[name][4])
            self.assertIs(self.holds(**{name: great}), False)
            self.assertIs(self.holds(**{name: great[:-2] + [None, None]}), False)
            self.assertIs(self.holds(**{name: great, "n": [(10 ** 7, 10 ** 7)] * len(codes["n"][4])}), False)
        great = [(10 ** 6 - k, 10 ** 6 - k) for k in range(len(codes["m"][4]))]
        for cut in range(len(great) + 1):
            self.assertIs(self.holds(m=great[:cut] + [None] * (len(great) - cut)), False)

    def test_rings_without_a_way_out(self):
        program = read_program("fn f(): int { return f(); } fn g(): int { return h(); } fn h(): int { return g(); }")
        numbers = [(None, None), (1, None), None, None]
        self.assertIs(paper_holds(program, {"f": numbers}), False)
        self.assertIs(paper_holds(program, {"g": numbers, "h": numbers}), False)

    def test_loops_that_are_never_reached(self):
        many = len(compile_program(self.program)["u"][4])
        self.assertNotIn("u", bounded(self.program))
        self.assertIs(self.holds(u=[(2, None), (1, None)] + [None] * (many - 2)), True)
        self.assertIs(self.holds(u=[(1, None), (1, None)] + [None] * (many - 2)), False)

    def test_lists_too_short_or_long(self):
        for name in "fgh":
            rows = self.paper[name]
            for other in (rows[:-1], rows[1:], rows + [None], rows + [(1, None)], [rows[0]] + rows, []):
                self.assertIs(self.holds(**{name: other}), False)

    def test_each_number(self):
        for name in "fgh":
            for at, pair in enumerate(self.paper[name]):
                rows = list(self.paper[name])
                if pair is None:
                    rows[at] = (1, 1)
                    self.assertIs(self.holds(**{name: rows}), False)
                    continue
                rows[at] = None
                self.assertIs(self.holds(**{name: rows}), False)
                for k in (0, 1):
                    others = [None] + ([] if pair[k] is None else [pair[k] - 1, 0])
                    for number in others:
                        if number != pair[k]:
                            rows[at] = (number, pair[1]) if k == 0 else (pair[0], number)
                            self.assertIs(self.holds(**{name: rows}), False)

    def test_greater_numbers(self):
        rows = [None if pair is None else tuple(None if n is None else n + 5 for n in pair) for pair in self.paper["f"]]
        self.assertIs(self.holds(f=rows), True)
        # The numbers at calls follow from those of the function that is called.
        rows = [None if pair is None else tuple(None if n is None else n + 5 for n in pair) for pair in self.paper["g"]]
        self.assertIs(self.holds(g=rows), False)
        rows = list(self.paper["g"])
        rows[0] = (rows[0][0] + 1, rows[0][1])
        self.assertIs(self.holds(g=rows), False)
        rows = list(self.paper["f"])
        rows[0] = (rows[0][0] + 1, rows[0][1] + 7)
        self.assertIs(self.holds(f=rows), True)
        rows[1] = (rows[1][0] + 1, rows[1][1])
        self.assertIs(self.holds(f=rows), True)
        rows[1] = (rows[1][0] + 1, rows[1][1])
        self.assertIs(self.holds(f=rows), False)

    def test_numbers_where_there_is_no_way(self):
        # A number that is told where none follows must be counted before it, too.
        program = read_program("fn h(): int { return 5; }")
        self.assertIs(paper_holds(program, {"h": [(2, 2), (1, 1), None, None]}), True)
        self.assertIs(paper_holds(program, {"h": [(2, 9), (1, None), None, None]}), True)
        self.assertIs(paper_holds(program, {"h": [(2, 1), (1, 1), None, None]}), False)
        self.assertIs(paper_holds(program, {"h": [(2, None), (1, 1), None, None]}), False)

    def test_random_papers(self):
        for seed in range(150):
            rng = random.Random(seed)
            program = Maker(rng, loops=False).program()
            paper = step_paper(program)
            self.assertIs(paper_holds(program, paper), True)
            if not paper:
                continue
            name = rng.choice(sorted(paper))
            at = rng.choice([k for k, pair in enumerate(paper[name]) if pair is not None])
            k = rng.choice([k for k in (0, 1) if paper[name][at][k] is not None])
            rows = [list(pair) if pair is not None else None for pair in paper[name]]
            rows[at][k] -= 1
            rows = [tuple(pair) if pair is not None else None for pair in rows]
            self.assertIs(paper_holds(program, {**paper, name: rows}), False)

    def test_steps_count_from_each_place(self):
        meaning = Meaning(self.program, answers_of(1, self.program, 9), 1000)
        for n in (-5, 0, 1, 5, 10 ** 12):
            stepping = Stepping(compile_program(self.program), answers_of(1, self.program, 9), 10 ** 6)
            self.assertEqual(stepping.run("f", [("int", n)]), meaning.run("f", [("int", n)]))
            self.assertLessEqual(stepping.steps, most_steps(self.program)["f"])


if __name__ == "__main__":
    unittest.main()
