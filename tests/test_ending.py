import random
import unittest

from flowreprise.code import may_fail
from flowreprise.compiling import compile_program, signatures
from flowreprise.ending import circles, end_right, prove_end, turns_left
from flowreprise.errors import VerifyError
from flowreprise.machine import Machine
from flowreprise.trees import read_program
from flowreprise.verifying import verify
from tests.helper import Maker, answers_of, check_untouched, random_value

MOST = 10 ** 12


def closure(pairs):
    """All pairs of places of which one leads to the other by one or more pairs."""
    after = {}
    for one, two in pairs:
        after.setdefault(one, set()).add(two)
    found = set()
    for one in after:
        due = set(after[one])
        while due:
            two = due.pop()
            if (one, two) not in found:
                found.add((one, two))
                due |= after.get(two, set())
    return found


def all_circles(pairs):
    leads = closure(pairs)
    found = {}
    for one, two in leads:
        if (two, one) in leads:
            found.setdefault(one, set()).update((one, two))
    return sorted(sorted(circle) for circle in {frozenset(circle) for circle in found.values()})


class Words:
    """Points 61 to 63 by their words, for the code of one function."""

    def __init__(self, code, sorts):
        self.rows = code[4]
        states = verify({code[1]: code}, sorts)[code[1]]
        self.pairs, self.falls = set(), set()
        for at, state in enumerate(states):
            if state is None:
                continue
            word = self.rows[at][0]
            if word not in ("jump", "return", "fail"):
                self.pairs.add((at, at + 1))
            if word in ("jump", "unless"):
                self.pairs.add((at, self.rows[at][1]))
            if may_fail(self.rows[at]) and state[2]:
                self.pairs.add((at, state[2][-1][0]))
                self.falls.add((at, state[2][-1][0], state[2][-1][1]))
        self.led = {row[1] for row in self.rows if row[0] in ("jump", "unless", "guard")}

    def word(self, at):
        return self.rows[at] if 0 <= at < len(self.rows) else (None,)

    def test(self, head):
        """The slots of a counted test, the one that counts first, or None."""
        first, bound, sign, last = [self.word(head - k) for k in (3, 2, 1, 0)]
        if first[0] != "get" or bound[0] not in ("get", "push") or sign not in (("op", "<"), ("op", "<=")):
            return None
        if last[0] != "unless" or {head - 2, head - 1, head} & self.led or first == bound:
            return None
        return [first[1]] + ([bound[1]] if bound[0] == "get" else [])

    def counts(self, at, slot):
        one, two, sign, put = [self.word(at - k) for k in (3, 2, 1, 0)]
        if put != ("put", slot) or sign != ("op", "+") or {at - 2, at - 1, at} & self.led:
            return False
        rest = [row for row in (one, two) if row != ("get", slot)]
        return len(rest) == 1 and rest[0][0] == "push" and rest[0][1][0] == "int" and rest[0][1][1] > 0

    def bounds(self, pairs, head):
        slots = self.test(head)
        if slots is None or (head, head + 1) not in pairs:
            return False
        places = {at for pair in pairs for at in pair}
        puts = {at for at in places if self.word(at)[0] == "put"}
        counting = {at for at in puts if self.counts(at, slots[0])}
        if any(self.word(at)[1] == slots[0] for at in puts - counting):
            return False
        if any(self.word(at) == ("put", slot) for at in puts for slot in slots[1:]):
            return False
        if any(slot in slots and at in places and to in places for at, to, slot in self.falls):
            return False
        return (head + 1, head) not in closure({pair for pair in pairs if not counting & set(pair)})

    def inside(self, pairs, circle):
        return {pair for pair in pairs if set(pair) <= set(circle)}

    def proof(self, pairs):
        paper = []
        for circle in all_circles(pairs):
            inside = self.inside(pairs, circle)
            for head in circle:
                rest = self.proof(inside - {(head, head + 1)}) if self.bounds(inside, head) else None
                if rest is not None:
                    paper.append((head, rest))
                    break
            else:
                return None
        return paper

    def right(self, pairs, paper):
        found = all_circles(pairs)
        if len(found) != len(paper):
            return False
        for circle, (head, rest) in zip(found, paper):
            inside = self.inside(pairs, circle)
            if not self.bounds(inside, head) or not self.right(inside - {(head, head + 1)}, rest):
                return False
        return True


def code_of(text):
    program = read_program(text)
    return compile_program(program)["f"], signatures(program)


def loops(body, params="n: int, m: int"):
    return code_of(f"fn f({params}): int {{ {body} return 0; }}")


class Case(unittest.TestCase):
    def proof(self, code, sorts):
        """The paper of a function, checked by the words of the points."""
        words = Words(code, sorts)
        paper = check_untouched(self, prove_end, code, sorts)
        self.assertEqual(paper, words.proof(words.pairs))
        if paper is not None:
            self.assertIs(check_untouched(self, end_right, code, sorts, paper), True)
        return paper

    def check_proof(self, body, wanted, **more):
        code, sorts = loops(body, **more)
        self.assertEqual(self.proof(code, sorts), wanted, body)
        return code, sorts


class TestExample(unittest.TestCase):
    def test_example(self):
        step = ("set", "k", ("op", "+", ("var", "k"), ("int", 1)))
        rows = [("let", "k", ("int", 0)), ("while", ("op", "<", ("var", "k"), ("var", "n")), [step]),
                ("return", ("var", "k"))]
        program = [("fn", "flow", [("n", "int")], "int", rows)]
        code = compile_program(program)["flow"]
        self.assertEqual(
            (prove_end(code, signatures(program)), turns_left(code, 5, [("int", 9), ("int", 2)])), ([(5, [])], 7))


class TestCircles(unittest.TestCase):
    def test_circles(self):
        for pairs, wanted in (
                ([], []), ([(0, 1)], []), ([(0, 0)], [[0]]), ([(0, 1), (1, 0)], [[0, 1]]),
                ([(0, 1), (1, 2), (2, 1), (2, 3)], [[1, 2]]),
                ([(0, 1), (1, 0), (1, 2), (2, 3), (3, 2)], [[0, 1], [2, 3]]),
                ([(0, 3), (1, 2), (2, 1), (3, 0)], [[0, 3], [1, 2]]),
                ([(0, 1), (1, 2), (2, 0), (2, 3), (3, 3), (3, 1)], [[0, 1, 2, 3]]),
                ([(-3, 5), (5, -3), (7, 7)], [[-3, 5], [7]])):
            self.assertEqual(check_untouched(self, circles, pairs), wanted)
            self.assertEqual(all_circles(pairs), wanted)

    def test_random(self):
        for seed in range(400):
            rng = random.Random(seed)
            many = rng.randrange(1, 9)
            pairs = sorted({(rng.randrange(many), rng.randrange(many)) for _ in range(rng.randrange(14))})
            self.assertEqual(circles(pairs), all_circles(pairs))

    def test_long(self):
        pairs = [(k, k + 1) for k in range(3000)] + [(3000, 1)]
        self.assertEqual(circles(pairs), [list(range(1, 3001))])
        self.assertEqual(circles(pairs[:-1]), [])


class TestProofs(Case):
    def test_without_loops(self):
        for body in ("", "if n < m { do 1; }", "try { do n / m; } catch c { do c; }", "return n; while true { }"):
            self.check_proof(body, [])

    def test_counting_up(self):
        for sign in ("<", "<="):
            for bound in ("n", "9", "0"):
                for step in ("k + 1", "k + 2", "1 + k", "k + 1000000000000"):
                    self.check_proof(f"let k = 0; while k {sign} {bound} {{ set k = {step}; }}", [(5, [])])

    def test_at_the_beginning(self):
        self.check_proof("while n < m { set n = n + 1; }", [(3, [])])
        self.check_proof("while m <= 5 { set m = 1 + m; }", [(3, [])])
        rows = [("get", 0), ("push", ("int", 1)), ("op", "+"), ("put", 0), ("get", 0), ("get", 1), ("op", "<"),
                ("unless", 9), ("jump", 0), ("get", 0), ("return",)]
        self.assertEqual(self.proof(("code", "f", 2, 2, rows), {"f": (["int", "int"], "int")}), [(7, [])])

    def test_that_do_not_count(self):
        for step in ("k + 0", "0 + k", "k - 1", "k * 2", "k + n", "n + 1", "k + k", "1 + 1", "1", "k", "-k + 1",
                     "k + (0 + 1)", "k + 1 + 0", "k + -1"):
            self.check_proof(f"let k = 0; while k < n {{ set k = {step}; }}", None)
        for test in ("n < k", "9 < k", "k = n", "k != n", "k < k", "not (k < n)", "k + 1 < n", "k < n + 1", "true",
                     "k < -1", "k < n and true", "m < n", "-k < n", "-k < 9", "[int: k][0] < n"):
            self.check_proof(f"let k = 0; while {test} {{ set k = k + 1; }}", None)
        self.check_proof("while n < m { }", None)
        self.check_proof("while n < m { do n + 1; }", None)

    def test_bounds_that_are_set_in_the_loop(self):
        self.check_proof("let k = 0; while k < n { set k = k + 1; set n = n; }", None)
        self.check_proof("let k = 0; while k < n { set k = k + 1; set n = n + 1; }", None)
        self.check_proof("let k = 0; while k < n { set k = k + 1; if k = 3 { set n = 1; return 1; } }", [(5, [])])
        self.check_proof("let k = 0; while k < n { set k = k + 1; set m = m + 1; }", [(5, [])])
        self.check_proof("let k = 0; while k < n { set k = k + 1; if m < 1 { set k = 0; } }", None)
        self.check_proof("let k = 0; while k < n { set k = k + 1; if m < 1 { set k = 0; return 1; } }", [(5, [])])
        self.check_proof("let k = 0; while k < n { set k = k + 1; set k = k + 5; }", [(5, [])])

    def test_ways_without_counting(self):
        self.check_proof("let k = 0; while k < n { if m < 1 { set k = k + 1; } }", None)
        self.check_proof("let k = 0; while k < n { if m < 1 { set k = k + 1; } else { return 1; } }", [(5, [])])
        self.check_proof("let k = 0; while k < n { if m < 1 { set k = k + 1; } else { set k = k + 2; } }", [(5, [])])
        self.check_proof("let k = 0; while k < n { do await signal go: int; set k = k + 1; }", [(5, [])])
        self.check_proof("let k = 0; while k < n { do f(k, k); set k = k + 1; }", [(5, [])])

    def test_failures(self):
        # A failure leads on to the test without counting, or counts first.
        self.check_proof("let k = 0; while k < n { try { do 1 / m; set k = k + 1; } catch c { } }", None)
        self.check_proof("let k = 0; while k < n { try { set k = k + 1; } catch c { } }", None)
        self.check_proof("let k = 0; while k < n { set k = k + 1; try { do 1 / m; } catch c { } }", [(5, [])])
        self.check_proof("let k = 0; while k < n { set k = k + 1; try { do 1 / m; } catch c { return c; } }", [(5, [])])
        self.check_proof("let k = 0; try { while k < n { set k = k + 1; do 1 / m; } } catch c { return c; }", [(6, [])])
        # A code that is put into the slot of the test or of the bound.
        text = "let k = 0; while k < n {{ set k = k + 1; try {{ do 1 / m; }} catch {} {{ }} }}"
        for name, wanted in (("c", [(5, [])]), ("k", None), ("n", None), ("m", [(5, [])])):
            code, sorts = loops(text.format("c"))
            slot = {"n": 0, "m": 1, "k": 2, "c": 3}[name]
            rows = [("guard", row[1], slot) if row[0] == "guard" else row for row in code[4]]
            self.assertEqual(self.proof((*code[:4], rows), sorts), wanted, name)

    def test_failures_that_lead_out(self):
        # The code is put into a slot of the test, but the circle is left then.
        code, sorts = loops("let k = 0; try { while k < n { set k = k + 1; do 1 / m; } } catch c { return 1; }")
        for slot in range(4):
            rows = [("guard", row[1], slot) if row[0] == "guard" else row for row in code[4]]
            self.assertEqual(self.proof((*code[:4], rows), sorts), [(6, [])])

    def test_failures_from_outside(self):
        # The code is put into the slot before the circle is entered.
        rows = [("guard", 6, 2), ("get", 0), ("get", 1), ("op", "/"), ("put", 2), ("unguard",), ("get", 2), ("get", 0),
                ("op", "<"), ("unless", 15), ("get", 2), ("push", ("int", 1)), ("op", "+"), ("put", 2), ("jump", 6),
                ("push", ("int", 0)), ("return",)]
        self.assertEqual(self.proof(("code", "f", 2, 3, rows), {"f": (["int", "int"], "int")}), [(9, [])])

    def test_nested(self):
        inner = "let j = 0; while j < m { set j = j + 1; }"
        text = "let k = 0; while k < n {{ set k = k + 1; {} }}"
        self.check_proof(text.format(inner), [(5, [(15, [])])])
        # The inner test bounds both loops where its slot is not set anew, but the outer one stands before it.
        self.check_proof("let k = 0; let j = 0; while k < n { set k = k + 1; while j < m { set j = j + 1; } }",
                         [(7, [(15, [])])])
        self.check_proof("let k = 0; let j = 0; while true { while j < m { set j = j + 1; } }", None)
        self.check_proof("let k = 0; let j = 0; while k < n { while j < m { set j = j + 1; set k = k + 1; } }", None)
        self.check_proof("let k = 0; let j = 0; while k < n { while j < m { set j = j + 1; } set k = k + 1; }",
                         [(7, [(11, [])])])
        deep = "let i = 0; while i <= 5 { set i = i + 3; }"
        self.check_proof(text.format(f"let j = 0; while j < m {{ set j = 1 + j; {deep} }}"), [(5, [(15, [(25, [])])])])
        self.check_proof(text.format(inner + " " + deep), [(5, [(15, []), (26, [])])])
        self.check_proof(text.format("while true { }"), None)
        self.check_proof(text.format("while k < n { set k = k + 1; }"), [(5, [(13, [])])])
        self.check_proof(text.format("while k < 9 { set n = n + 1; }"), None)
        self.check_proof(text.format(inner + " while true { }"), None)

    def test_loops_behind_one_another(self):
        text = "let a = 0; while a < n { set a = a + 1; } let b = 0; while b < m { set b = b + 1; }"
        self.check_proof(text, [(5, []), (16, [])])
        self.check_proof(text + " while true { }", None)

    def test_tests_that_are_led_to(self):
        # A jump to the second place of the test or of a "put" takes it its meaning.
        code, sorts = loops("let k = 0; while k < n { set k = k + 1; }")
        rows = list(code[4])
        self.assertEqual(rows[2:12], [
            ("get", 2), ("get", 0), ("op", "<"), ("unless", 11), ("get", 2), ("push", ("int", 1)), ("op", "+"),
            ("put", 2), ("jump", 2), ("push", ("int", 0))])
        for first, wanted in ((2, [(5, [])]), (3, None), (4, None), (5, None), (6, [(5, [])]), (7, None), (8, None),
                              (9, None), (10, [(5, [])]), (11, [(5, [])])):
            # The place is led to by an instruction that is never reached.
            other = rows + [("jump", first)]
            self.assertEqual(self.proof((*code[:4], other), sorts), wanted, first)

    def test_greedy_is_enough(self):
        # Many tests bound the circle, and none of the rest ends: no search among their orders is needed.
        body = "".join(f"while {name} < n {{ set {name} = {name} + 1; }} " for name in "abcdefghij")
        lets = "".join(f"let {name} = 0; " for name in "abcdefghij")
        code, sorts = loops(f"{lets} let k = 0; while k < m {{ {body} while true {{ }} set k = k + 1; }}")
        self.assertIsNone(prove_end(code, sorts))

    def test_random_programs(self):
        found = none = 0
        for seed in range(300):
            rng = random.Random(seed)
            program = Maker(rng).program()
            codes, sorts = compile_program(program), signatures(program)
            for name in codes:
                if len(codes[name][4]) < 90:
                    paper = self.proof(codes[name], sorts)
                    found += paper not in (None, [])
                    none += paper is None
        self.assertGreater(none, 100)
        seen = {}
        for seed in range(300):
            code, sorts = loops(LoopMaker(random.Random(seed)).body())
            paper = self.proof(code, sorts)
            seen[depth_of(paper)] = seen.get(depth_of(paper), 0) + 1
        for depth in (None, 0, 1, 2, 3):
            self.assertGreater(seen.get(depth, 0), 5, seen)

    def test_changed_code(self):
        changed = {}
        for seed in range(1200):
            rng = random.Random(seed)
            code, sorts = loops(LoopMaker(rng).body())
            rows = list(code[4])
            at = rng.randrange(len(rows))
            row = rows[at]
            if row[0] in ("jump", "unless"):
                rows[at] = (row[0], rng.randrange(len(rows)))
            elif row[0] == "guard":
                rows[at] = (row[0], row[1], rng.randrange(code[3]))
            elif row[0] in ("get", "put"):
                rows[at] = (row[0], rng.randrange(code[3]))
            else:
                rows[at] = rng.choice([row, ("push", ("int", 0)), ("op", "<"), ("op", "-"), rng.choice(rows)])
            try:
                paper = self.proof((*code[:4], rows), sorts)
            except VerifyError:
                continue
            changed[paper is None] = changed.get(paper is None, 0) + 1
        self.assertGreater(min(changed[True], changed[False]), 100)


def depth_of(paper):
    return None if paper is None else max((1 + depth_of(rest) for _, rest in paper), default=0)


class LoopMaker:
    """Makes bodies with loops of many kinds, most of which count."""

    def __init__(self, rng):
        self.rng = rng
        self.count = 0

    def body(self, depth=0):
        return " ".join(self.row(depth) for _ in range(self.rng.choice([1, 1, 2]) if depth < 3 else 0))

    def row(self, depth):
        rng = self.rng
        way = rng.random()
        if way < 0.1:
            return f"if n < m {{ {self.body(depth + 1)} }} else {{ {self.body(depth + 1)} }}"
        if way < 0.2:
            return f"try {{ {self.body(depth + 1)} do n / m; }} catch {self.fresh()} {{ {self.body(depth + 1)} }}"
        if way < 0.3:
            return rng.choice([
                "set n = n + 1;", "do n + m;", "set m = 2;", "do await act pay(n): int;", "if n < m { return 1; }"])
        name = self.fresh()
        step = rng.choice([f"{name} + 1", f"{name} + 2", f"3 + {name}"] * 3 + [f"{name} + 0", f"{name} - 1", "n"])
        bound = rng.choice(["n", "m", "4", "7"])
        test = rng.choice([f"{name} < {bound}", f"{name} <= {bound}"] * 3 + [f"{bound} < {name}"])
        step = f"set {name} = {step};"
        rows = rng.choice([step + " " + self.body(depth + 1), self.body(depth + 1) + " " + step])
        return f"let {name} = {rng.choice(['0', 'm', '-3'])}; while {test} {{ {rows} }}"

    def fresh(self):
        self.count += 1
        return "k" + "abcdefghij"[self.count // 10] + "abcdefghij"[self.count % 10]


class TestPapers(Case):
    def right(self, code, sorts, paper):
        words = Words(code, sorts)
        told = check_untouched(self, end_right, code, sorts, paper)
        self.assertIs(told, words.right(words.pairs, paper))
        return told

    def test_other_tests_loops_and_orders(self):
        code, sorts = loops(
            "let k = 0; while k < n { set k = k + 1; let j = 0; while j < m { set j = j + 1; } } "
            "let i = 0; while i < 3 { set i = i + 1; }")
        good = [(5, [(15, [])]), (27, [])]
        self.assertTrue(self.right(code, sorts, good))
        for wrong in ([], good[:1], good[1:], good[::-1], good + [(27, [])], [(15, [(5, [])]), good[1]],
                      [(5, []), good[1]], [good[0], (27, [(27, [])])], [(5, [(15, [(15, [])])]), good[1]],
                      [(5, [(15, []), (15, [])]), good[1]], [(4, [(15, [])]), good[1]], [(6, [(15, [])]), good[1]],
                      [good[0], (5, [])], [(-1, [(15, [])]), good[1]], [(999, [(15, [])]), good[1]]):
            self.assertFalse(self.right(code, sorts, wrong), wrong)

    def test_several_right_papers(self):
        code, sorts = loops("let k = 0; let j = 0; while k < n { set k = k + 1; while j < m { set j = j + 1; } }")
        self.assertTrue(self.right(code, sorts, [(7, [(15, [])])]))
        self.assertTrue(self.right(code, sorts, [(15, [(7, [])])]))
        code, sorts = loops("let k = 0; let j = 0; while k < n { while j < m { set j = j + 1; set k = k + 1; } return 1; }")
        self.assertTrue(self.right(code, sorts, [(11, [])]))
        code, sorts = loops("let k = 0; let j = 0; while k < n { if j < m { } else { return 1; } "
                            "set k = k + 1; set j = j + 1; }")
        self.assertEqual(self.proof(code, sorts), [(7, [])])
        self.assertTrue(self.right(code, sorts, [(11, [])]))

    def test_tests_that_lead_out(self):
        # The place behind the second test is none of the circle, so this test bounds nothing.
        code, sorts = loops("let k = 0; while k < n { set k = k + 1; if k < m { return 1; } }")
        self.assertEqual(code[4][13], ("unless", 17))
        self.assertTrue(self.right(code, sorts, [(5, [])]))
        self.assertFalse(self.right(code, sorts, [(13, [(5, [])])]))
        self.assertFalse(self.right(code, sorts, [(13, [])]))
        self.assertIsNone(self.proof(*loops("let k = 0; while true { set k = k + 1; if k < m { return 1; } }")))

    def test_no_loops(self):
        code, sorts = loops("")
        self.assertTrue(self.right(code, sorts, []))
        self.assertFalse(self.right(code, sorts, [(5, [])]))

    def test_random_papers(self):
        right = wrong = 0
        for seed in range(400):
            rng = random.Random(seed)
            code, sorts = loops(LoopMaker(rng).body())
            paper = prove_end(code, sorts)
            if paper is None:
                paper = self.any_paper(rng, 2)
            for _ in range(4):
                told = self.right(code, sorts, self.changed(rng, paper, len(code[4])))
                right += told
                wrong += not told
        self.assertGreater(right, 50)
        self.assertGreater(wrong, 500)

    def any_paper(self, rng, depth):
        return [(rng.randrange(5, 20), self.any_paper(rng, depth - 1)) for _ in range(rng.randrange(depth + 1))]

    def changed(self, rng, paper, size):
        rows = [(head, self.changed(rng, rest, size) if rng.random() < 0.5 else rest) for head, rest in paper]
        way = rng.randrange(5)
        if way == 0 and rows:
            rows.pop(rng.randrange(len(rows)))
        elif way == 1 and rows:
            k = rng.randrange(len(rows))
            rows[k] = (rng.randrange(-1, size + 1), rows[k][1])
        elif way == 2:
            rows.insert(rng.randrange(len(rows) + 1), (rng.randrange(size), []))
        return rows


class TestTurns(Case):
    def test_turns(self):
        for sign, more in (("<", 0), ("<=", 1)):
            code, _ = loops(f"let k = 0; while k {sign} n {{ set k = k + 1; }}")
            pushed, _ = loops(f"let k = 0; while k {sign} 9 {{ set k = k + 5; }}")
            for slot, bound in ((0, 0), (5, 9), (9, 9), (8, 9), (10, 9), (11, 9), (-5, 9), (MOST, MOST), (-MOST, MOST),
                                (MOST, -MOST), (MOST - 1, MOST), (-MOST, -MOST)):
                wanted = max(0, bound - slot + more)
                values = [("int", bound), ("text", "x"), ("int", slot)]
                self.assertEqual(check_untouched(self, turns_left, code, 5, values), wanted)
                if bound == 9:
                    self.assertEqual(turns_left(pushed, 5, [None, None, ("int", slot)]), wanted)

    def test_turns_of_runs(self):
        exact = 0
        for seed in range(300):
            rng = random.Random(seed)
            program = read_program(f"fn f(n: int, m: int): int {{ {LoopMaker(rng).body()} return 0; }}")
            code = compile_program(program)["f"]
            paper = prove_end(code, signatures(program))
            if paper is None:
                continue
            values = [("int", rng.choice([-2, 0, 1, 3, 6])), ("int", rng.choice([-1, 0, 2, 5]))]
            machine = Machine({"f": code}, "f", values)
            for circle, (head, _) in all_loops(code, signatures(program), paper):
                exact += self.check_run(Machine({"f": code}, "f", values), circle, head, code, rng)
            answers = answers_of(seed, program, 10 ** 6)
            while machine.run(20000)[0] == "waits":
                machine.answer(answers(machine.asked))
            self.assertIn(machine.outcome()[0], ("done", "failed"))
        self.assertGreater(exact, 60)

    def check_run(self, machine, circle, head, code, rng):
        """Checks how often a run goes on from a test, and that the slot is greater each time."""
        allowed, turns, last, exact = None, 0, None, 0
        slot = code[4][head - 3][1]
        answers = answers_of(rng.random(), [("fn", "f", [], "int", [])], 10 ** 6)
        while machine.outcome() is None:
            _, at, slots, _, _ = machine.frames()[0]
            machine.step()
            if machine.asked is not None:
                machine.answer(answers(machine.asked))
            behind = machine.frames()[0][1] if machine.frames() else None
            if (at, behind) == (head, head + 1):
                if allowed is None:
                    allowed = turns_left(code, head, list(slots))
                turns += 1
                self.assertLessEqual(turns, allowed)
                self.assertTrue(last is None or slots[slot][1] > last)
                last = slots[slot][1]
            if (at, behind) not in circle:
                exact += allowed is not None and allowed == turns
                allowed, turns, last = None, 0, None
        return exact


def all_loops(code, sorts, paper):
    """The pairs of the circles of a paper, each with its loop."""
    words = Words(code, sorts)

    def go(pairs, rows):
        for circle, (head, rest) in zip(all_circles(pairs), rows):
            inside = words.inside(pairs, circle)
            yield inside, (head, rest)
            yield from go(inside - {(head, head + 1)}, rest)

    return list(go(words.pairs, paper))


class TestEnds(Case):
    def test_runs_of_proved_functions_end(self):
        ended = 0
        for seed in range(300):
            rng = random.Random(seed)
            program = Maker(rng, loops=False, rings=False).program()
            codes, sorts = compile_program(program), signatures(program)
            self.assertEqual([prove_end(codes[name], sorts) for name in codes], [[] for _ in codes])
            for _, name, params, _, _ in program:
                values = [random_value(rng, kind, True) for _, kind in params]
                machine, answers = Machine(codes, name, values), answers_of(seed, program, 40)
                for _ in range(60):
                    if machine.run(10 ** 4)[0] != "waits":
                        break
                    told = answers(machine.asked)
                    if told is None:
                        break
                    machine.answer(told)
                self.assertNotEqual(machine.run(10 ** 5), ("tired",))
                ended += machine.outcome()[0] != "waits"
        self.assertGreater(ended, 100)


if __name__ == "__main__":
    unittest.main()
