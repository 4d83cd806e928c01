import random
import unittest

from flowreprise.compiling import compile_program
from flowreprise.effects import allows_failure, allows_request, effects, without_requests
from flowreprise.machine import Machine
from flowreprise.meaning import run
from flowreprise.trees import read_expression, read_program
from tests.helper import Maker, Meaning, Moved, answers_of, check_untouched, random_value

ONE, TWO, NONE = ("int", 1), ("int", 2), ("nothing",)
TRUE, FALSE = ("bool", True), ("bool", False)


def whole(n):
    return ("int", n)


def text(s):
    return ("text", s)


def ints(*numbers):
    return ("list", tuple(("int", n) for n in numbers))


def ok(value):
    return ("ok", value)


NAMES = {"i": whole(7), "b": TRUE, "t": text("ab"), "u": NONE, "k": ints(4, 5)}
KINDS = {"i": "int", "b": "bool", "t": "text", "u": "nothing", "k": ("list", "int")}


def body_run(body, answers=(), most=1000, params="n: int", values=(whole(7),), others=""):
    """A run of a function with this body."""
    program = read_program(f"fn f({params}): int {{ {body} }} {others}")
    return run(program, "f", list(values), list(answers), most)


def recorded(program, name, values, seed, many, most=1000):
    """The outcome and the requests of a run by another meaning, and the answers that it was given."""
    told = []
    answers = answers_of(seed, program, many)

    def answer(request):
        given = answers(request)
        if given is not None:
            told.append(given)
        return given

    meaning = Meaning(program, answer, most)
    return meaning.run(name, values), meaning.requests, told


class TestExample(unittest.TestCase):
    def test_example(self):
        program = [("fn", "main", [("x", "int")], "int", [
            ("return", ("op", "+", ("var", "x"), ("await", "act", "pay", ("var", "x"), "int")))])]
        self.assertEqual(run(program, "main", [("int", 5)], [], 100), (
            ("waits", ("act", "pay", ("int", 5), "int")), [("act", "pay", ("int", 5), "int")]))
        self.assertEqual(run(program, "main", [("int", 5)], [("ok", ("int", 7))], 100)[0], ("done", ("int", 12)))


class TestExpressions(unittest.TestCase):
    def worth(self, source, kind="int", answers=()):
        tree = read_expression(source)
        program = [("fn", "f", [(name, KINDS[name]) for name in sorted(KINDS)], kind, [("return", tree)])]
        program += read_program("fn g(x: int, y: int): int { return x - y; } fn h(): text { return \"h\"; }")
        return check_untouched(self, run, program, "f", [NAMES[name] for name in sorted(NAMES)], list(answers), 10)

    def check(self, source, value, kind="int"):
        self.assertEqual(self.worth(source, kind), (("done", value), []))

    def check_fails(self, source, code):
        self.assertEqual(self.worth(source), (("failed", code), []))

    def test_literals_and_names(self):
        for source, value in (("12", whole(12)), ("true", TRUE), ("false", FALSE), ('"a""b"', text('a"b')),
                              ("nothing", NONE), *NAMES.items()):
            self.check(source, value)

    def test_operations(self):
        for source, value in (
                ("i + 2", whole(9)), ("i - 9", whole(-2)), ("i * -3", whole(-21)), ("-i / 2", whole(-4)),
                ("t & t", text("abab")), ("k & [int: 1]", ints(4, 5, 1)), ("k = [int: 4, 5]", TRUE), ("t != t", FALSE),
                ("i < 7", FALSE), ("i <= 7", TRUE), ('t < "b"', TRUE), ("not b", FALSE), ("-i", whole(-7)),
                ("k[1]", whole(5)), ("size(k)", TWO), ("size(t)", TWO), ("text(-i)", text("-7")), ("text(b)", text("true")),
                ("[int: i, 2]", ints(7, 2)), ("[int:]", ("list", ())), ("[[int]: k]", ("list", (ints(4, 5),))),
                ("g(i, 2)", whole(5)), ("h()", text("h")), ("g(g(1, 2), g(i, 3))", whole(-5))):
            self.check(source, value)

    def test_failures(self):
        for source, code in (
                ("1000000000000 + 1", 2), ("-1000000000000 - 1", 2), ("1000000000000 * 2", 2), ("i / 0", 1), ("k[2]", 3),
                ("k[-1]", 3), ("1 + g(1 / 0, 2)", 1), ("size([int: 1, 2, k[9]])", 3)):
            self.check_fails(source, code)
        self.check("size(\"" + "a" * 31 + "\" & \"" + "b" * 29 + "\")", whole(60))
        self.check_fails("size(\"" + "a" * 31 + "\" & \"" + "b" * 30 + "\")", 2)
        self.check("size(" + " & ".join(["k"] * 10) + ")", whole(20))
        self.check_fails("size(" + " & ".join(["k"] * 11) + ")", 2)

    def test_deciding(self):
        for source, value, asks in (
                ("false and now = 1", FALSE, 0), ("true and now = 1", FALSE, 1), ("true and now = 2", TRUE, 1),
                ("true or now = 1", TRUE, 0), ("false or now = 1", FALSE, 1), ("false or now = 2", TRUE, 1),
                ("false and 1 / 0 = 1", FALSE, 0), ("(true or 1 / 0 = 1) and not (false and k[9] = 1)", TRUE, 0)):
            outcome, requests = self.worth(source, "bool", [ok(TWO)])
            self.assertEqual((outcome, len(requests)), (("done", value), asks), source)
        self.assertEqual(self.worth("true and 1 / 0 = 1")[0], ("failed", 1))
        self.assertEqual(self.worth("now = 1 and true")[0], ("waits", ("now",)))

    def test_requests(self):
        for source, request, value in (
                ("await act pay(k): text", ("act", "pay", ints(4, 5), "text"), text("x")),
                ("await timer(i - 7)", ("timer", 0), NONE), ("await timer(i)", ("timer", 7), NONE),
                ("await signal go: [int]", ("signal", "go", ("list", "int")), ints(1)),
                ("await flow g(i, 2)", ("flow", "g", (whole(7), TWO)), ONE), ("await flow h()", ("flow", "h", ()), text("")),
                ("now", ("now",), whole(0)), ("random(i - 6)", ("random", 1), whole(0)), ("random(9)", ("random", 9), ONE)):
            self.assertEqual(self.worth(source), (("waits", request), [request]))
            self.assertEqual(self.worth(source, answers=[ok(value)]), (("done", value), [request]))
            self.assertEqual(self.worth(source, answers=[("failed", 404)]), (("failed", 404), [request]))
        for source in ("await timer(-1)", "random(0)", "random(-1)"):
            self.assertEqual(self.worth(source), (("failed", 2), []))
            self.assertEqual(self.worth(source, answers=[ok(NONE)]), (("failed", 2), []))

    def test_order_of_evaluation(self):
        one, two = "await act one(1): int", "await act two(2): int"
        for source in (f"({one}) + ({two})", f"g({one}, {two})", f"[int: {one}, {two}][0]", f"({one}) * -({two})",
                       f"[int: {one}][{two}]", f"await flow g({one}, {two})", f"random(({one}) + ({two}))",
                       f"await act three(({one}) - ({two})): int", f"size([bool: ({one}) = 5, ({two}) < 3])"):
            names = lambda rows: [row[1] for row in rows if row[0] == "act"][:2]
            self.assertEqual(names(self.worth(source)[1]), ["one"])
            self.assertEqual(names(self.worth(source, answers=[ok(ONE)])[1]), ["one", "two"])
            self.assertEqual(names(self.worth(source, answers=[ok(ONE), ok(TWO)])[1]), ["one", "two"])
            self.assertEqual(names(self.worth(source, answers=[("failed", 200)])[1]), ["one"])
        # What fails behind its parts fails behind their requests.
        self.assertEqual(self.worth("1 / 0 + now")[1], [])
        self.assertEqual(self.worth("(now + 1 / 0) + random(5)", answers=[ok(ONE), ok(ONE)]), (("failed", 1), [("now",)]))


class TestStrays(unittest.TestCase):
    """Values of other types than are needed, which a child of another version may give."""

    VALUES = (whole(0), whole(7), TRUE, FALSE, text(""), text("ab"), NONE, ints(), ints(4, 5), ("list", (text("a"),)),
              ("list", (ints(), ints(1))))
    # Expressions with the types of which they need values, and of what they do not need of both together.
    OF_ONE = {"not": ("bool",), "-": ("int",), "size": ("text", "list"), "text": ("int", "bool"), "random": ("int",),
              "await timer": ("int",), "await act pay": None, "await flow f": None, "g": None}
    OF_TWO = {**{sign: (("int", "int"),) for sign in "+-*/"}, "=": None, "!=": None, "&": (("text", "text"), ("list", "list")),
              "<": (("int", "int"), ("text", "text")), "<=": (("int", "int"), ("text", "text"))}

    def worth(self, source, *values):
        """What a program makes of an expression in which answers stand, which may have any types."""
        told = source.replace("A", "(await signal go: int)").replace("B", "(await signal stop: int)")
        program = [("fn", "f", [("n", "int")], "int", [("return", read_expression(told))]),
                   ("fn", "g", [("n", "int")], "int", [("return", ("var", "n"))])]
        given = [ok(value) for value in values]
        outcome, requests = run(program, "f", [ONE], given, 10)
        left = list(given)
        other = Moved(program, lambda request: left.pop(0) if left else None, 10)
        self.assertEqual((outcome, requests), (other.run("f", [ONE]), other.requests), (source, values))
        return outcome

    def test_operations_of_one_value(self):
        for word, kinds in self.OF_ONE.items():
            source = {"not": "not A", "-": "-A", "await act pay": "await act pay(A): int"}.get(word, f"{word}(A)")
            for value in self.VALUES:
                outcome = self.worth(source, value)
                if kinds is not None and value[0] not in kinds:
                    self.assertEqual(outcome, ("failed", 2), (source, value))
                elif value != whole(0):
                    self.assertNotEqual(outcome[0], "failed", (source, value))
        self.assertEqual(self.worth("g(A)", TRUE), ("done", TRUE))
        self.assertEqual(self.worth("await act pay(A): int", NONE), ("waits", ("act", "pay", NONE, "int")))
        self.assertEqual(self.worth("await flow f(A)", TRUE), ("waits", ("flow", "f", (TRUE,))))

    def test_operations_of_two_values(self):
        for sign, kinds in self.OF_TWO.items():
            for one in self.VALUES:
                for other in self.VALUES:
                    outcome = self.worth(f"A {sign} B", one, other)
                    if kinds is not None and (one[0], other[0]) not in kinds:
                        self.assertEqual(outcome, ("failed", 2), (sign, one, other))
        self.assertEqual(self.worth("A = B", whole(1), TRUE), ("done", FALSE))
        self.assertEqual(self.worth("A != B", whole(1), TRUE), ("done", TRUE))
        self.assertEqual(self.worth("A = B", text("a"), text("a")), ("done", TRUE))
        self.assertEqual(self.worth("A / B", whole(1), whole(0)), ("failed", 1))
        self.assertEqual(self.worth("A / B", TRUE, whole(0)), ("failed", 2))
        self.assertEqual(self.worth("A[B]", ints(4, 5), ONE), ("done", whole(5)))
        self.assertEqual(self.worth("A[B]", ints(4, 5), TWO), ("failed", 3))
        for pair in ((ints(4, 5), TRUE), (text("ab"), ONE), (whole(3), ONE), (NONE, ONE), (ints(4, 5), NONE)):
            self.assertEqual(self.worth("A[B]", *pair), ("failed", 2))

    def test_lists_of_several_types(self):
        words, deep = ("list", (text("a"),)), ("list", (ints(), ints(1)))
        for one, other, made in (
                (ints(1), words, None), (words, ints(), words), (ints(), words, words), (deep, ints(1), None),
                (deep, ("list", (ints(),)), ("list", (ints(), ints(1), ints()))), (deep, ("list", (words,)), None),
                (("list", (ints(),)), ("list", (words,)), ("list", (ints(), words)))):
            self.assertEqual(self.worth("A & B", one, other), ("failed", 2) if made is None else ("done", made))
        for source, value, made in (
                ("[int: 1, A]", TWO, ints(1, 2)), ("[int: 1, A]", TRUE, None), ("[int: A]", text("1"), None),
                ("[bool: A]", TRUE, ("list", (TRUE,))), ("[[int]: A]", ints(), ("list", (ints(),))), ("[[int]: A]", words, None),
                ("[[int]: A]", ONE, None), ("[text: A]", words, None)):
            self.assertEqual(self.worth(source, value), ("failed", 2) if made is None else ("done", made))

    def test_deciding(self):
        for value in self.VALUES:
            for word in ("and", "or"):
                outcome = self.worth(f"A {word} B", value, text("b"))
                if value[0] != "bool":
                    self.assertEqual(outcome, ("failed", 2))
                elif value[1] == (word == "or"):
                    self.assertEqual(outcome, ("done", value))
                else:
                    # The second part is what the expression gives.
                    self.assertEqual(outcome, ("done", text("b")))

    def test_statements(self):
        asked = "await signal go: int"
        for value in self.VALUES:
            is_bool, is_int = value[0] == "bool", value[0] == "int"
            for body, wanted in (
                    (f"let a = {asked}; set n = a; do a; return n;", ("done", value)),
                    (f"if {asked} {{ return 1; }} else {{ return 0; }}",
                     ("done", whole(int(value[1]))) if is_bool else ("failed", 2)),
                    (f"while {asked} {{ return 1; }} return 0;", ("done", whole(int(value[1]))) if is_bool else ("failed", 2)),
                    (f"fail {asked};", ("failed", 2)),
                    (f"try {{ do 5 + (await flow g({asked})); }} catch c {{ return c; }} return 9;",
                     ("done", whole(9 if is_int else 2))),
                    (f"try {{ if {asked} {{ do 1 / 0; }} return 5; }} catch c {{ return n * c; }}",
                     ("done", whole(14 if not is_bool else 7 if value[1] else 5))),
                    (f"try {{ do {asked} and true; }} catch c {{ return n + c; }} return 1;", ("done", ONE if is_bool else whole(9)))):
                outcome, _ = body_run(body, [ok(value)] * 2, others="fn g(n: int): int { return n; }")
                self.assertEqual(outcome, wanted, (body, value))
        self.assertEqual(body_run(f"fail {asked};", [ok(whole(404))])[0], ("failed", 404))
        self.assertEqual(body_run(f"fail {asked};", [ok(text("404"))])[0], ("failed", 2))

    def test_calls_that_are_left(self):
        """A failure out of calls leaves nothing of them behind."""
        others = "fn g(n: int): int { return 1 + (2 * (await flow h(n))); } fn h(n: int): text { return text(n); }"
        for value, wanted in ((whole(5), 7 * 11), (text("a"), 7 * 2), (NONE, 7 * 2)):
            body = "let s = 0; try { set s = n * g(n); } catch c { set s = n * c; } return s;"
            self.assertEqual(body_run(body, [ok(value)], others=others)[0], ("done", whole(wanted)))


class TestStatements(unittest.TestCase):
    def check(self, body, wanted, answers=(), requests=None, **more):
        outcome, told = body_run(body, answers, **more)
        self.assertEqual(outcome, wanted, body)
        if requests is not None:
            self.assertEqual(told, requests)

    def test_names(self):
        self.check("let a = n + 1; set a = a * 2; set n = 1; return a + n;", ("done", whole(17)))
        self.check("let a = 1; if true { set a = 2; let b = a; set n = b; } return a + n;", ("done", whole(4)))
        self.check("return g(n) + n;", ("done", whole(107)), others="fn g(n: int): int { set n = 100; return n; }")

    def test_branches(self):
        for n, value in ((6, 1), (7, 2), (8, 2)):
            self.check("if n < 7 { return 1; } else { return 2; }", ("done", whole(value)), values=[whole(n)])
            self.check("if n < 7 { return 1; } return 2;", ("done", whole(value)), values=[whole(n)])
        self.check("if true { } else { fail 100; } return 5;", ("done", whole(5)))

    def test_loops(self):
        for n in range(4):
            self.check("let s = 0; while 0 < n { set s = s + n; set n = n - 1; } return s;",
                       ("done", whole(n * (n + 1) // 2)), values=[whole(n)])
        self.check("while true { if n < 1 { return 3; } set n = n - 1; } return 4;", ("done", whole(3)))
        self.check("while now < 2 { do random(1); } return 1;", ("done", ONE),
                   [ok(ONE), ok(whole(0)), ok(ONE), ok(whole(0)), ok(TWO)],
                   [("now",), ("random", 1), ("now",), ("random", 1), ("now",)])
        # The name that is let in a body has its first value anew each time.
        self.check("let s = 0; while n < 9 { let x = 1; set x = x + 1; set s = s + x; set n = n + 1; } return s;",
                   ("done", whole(4)))

    def test_do_and_return(self):
        self.check("do now; do await timer(3); return 1; do random(5);", ("done", ONE), [ok(ONE), ok(NONE), ok(ONE)],
                   [("now",), ("timer", 3)])
        self.check("return g() + 1;", ("done", TWO), others="fn g(): int { while true { try { return 1; } catch c { } } "
                   "return 2; }")

    def test_functions_without_return(self):
        # No checked program has one, but a run of it has a meaning.
        program = [("fn", "f", [], "nothing", [("do", ("int", 1))])]
        self.assertEqual(run(program, "f", [], [], 9), (("done", NONE), []))
        call = ("fn", "g", [("n", "int")], "int", [("do", ("call", "f", [])), ("return", ("var", "n"))])
        self.assertEqual(run([*program, call], "g", [ONE], [], 9), (("done", ONE), []))

    def test_codes_of_fail(self):
        for n, code in ((100, 100), (999, 999), (404, 404), (99, 2), (1000, 2), (0, 2), (-100, 2), (10 ** 12, 2), (5, 2)):
            self.check("fail n;", ("failed", code), values=[whole(n)])
            self.check("try { fail n; } catch c { return c; } return 0;", ("done", whole(code)), values=[whole(n)])
            self.check("try { do 1 / 0; } catch c { fail n; } return 0;", ("failed", code), values=[whole(n)])
            self.check("try { return 1 + g(n); } catch c { return c * 2; }", ("done", whole(2 * code)), values=[whole(n)],
                       others="fn g(n: int): int { let a = n; fail a; }")
            self.check("return 1 + g(n);", ("failed", code), values=[whole(n)], others="fn g(n: int): int { fail n; }")

    def test_try(self):
        self.check("try { set n = 1; do 1 / 0; set n = 2; } catch c { return n * 10 + c; } return 5;", ("done", whole(11)))
        self.check("try { set n = 1; } catch c { set n = c; } return n;", ("done", ONE))
        self.check("try { try { fail 200; } catch c { fail c + 1; } } catch d { return d; } return 0;", ("done", whole(201)))
        self.check("try { try { fail 200; } catch c { } fail 300; } catch d { return d; } return 0;", ("done", whole(300)))
        self.check("try { return 1; } catch c { return 2; }", ("done", ONE))
        self.check("try { if n < 9 { while true { fail 500; } } } catch c { return c; } return 0;", ("done", whole(500)))
        self.check("let s = 0; while s < 3 { try { set s = s + 1; fail 100; } catch c { set n = n + c; } } return n;",
                   ("done", whole(307)))
        # What was worked out of an expression before it failed is forgotten.
        self.check("let a = 1; try { set a = 2 * (3 + [int: 4, g(5)][0]); } catch c { set a = a + c; } return 10 * a;",
                   ("done", whole(3010)), others="fn g(n: int): int { return 1 + h(n); } fn h(n: int): int { fail 300; }")

        for first in ("5 + 1 / 0", "[int: 6, 7, h(6)][0]"):
            self.check("return 100 + g(n);", ("done", whole(107)), others=(
                "fn g(n: int): int { try { do %s; } catch c { return n; } return 2; } fn h(n: int): int { fail n; }" % first))

    def test_failed_answers(self):
        self.check("try { do now; } catch c { return c; } return 0;", ("done", whole(5)), [("failed", 5)])
        self.check("try { do 1; } catch c { return c; } return now;", ("failed", 5), [("failed", 5)])
        self.check("return await act pay(n): int;", ("failed", 6), [("failed", 6)])

    def test_calls_inside_of_calls(self):
        deep = "if n < 1 { return 0; } return 1 + f(n - 1);"
        self.check(deep, ("done", whole(30)), values=[whole(30)])
        self.check(deep, ("failed", 4), values=[whole(31)])
        self.check(deep, ("failed", 4), values=[whole(99)])
        # The arguments are evaluated before it fails.
        deep = "if n < 1 { return 0; } return f(n - 1 + await act pay(n): int);"
        answers = [ok(whole(0))] * 40
        outcome, requests = body_run(deep, answers, values=[whole(31)])
        self.assertEqual((outcome, len(requests)), (("failed", 4), 31))
        self.assertEqual(requests[-1], ("act", "pay", ONE, "int"))
        deep = "if n < 1 { return 0; } try { return 1 + f(n - 1); } catch c { return 100 * c; }"
        self.check(deep, ("done", whole(430)), values=[whole(31)])
        # The calls that have ended do not count.
        self.check("let s = 0; while 0 < n { set s = s + f(0); set n = n - 1; } return s + n;", ("done", whole(0)),
                   values=[whole(40)])

    def test_deep_calls_with_deep_expressions(self):
        inner = "f(n - 1)"
        for _ in range(13):
            inner = f"(0 + {inner})"
        body = f"return {inner};"
        for letter in "abcdefgh":
            body = f"try {{ {body} }} catch c{letter} {{ fail c{letter}; }}"
        self.check("if n < 1 { return 3; } " + body, ("done", whole(3)), values=[whole(30)])
        self.check("if n < 1 { return 3; } " + body, ("failed", 2), values=[whole(31)])


class TestAnswers(unittest.TestCase):
    def test_none_too_few_enough_and_too_many(self):
        body = "let a = now; try { set a = a + await act pay(a): int; } catch c { do random(9); } return await flow f(a);"
        answers = [ok(ONE), ok(TWO), ok(whole(8))]
        rows = [("now",), ("act", "pay", ONE, "int"), ("flow", "f", (whole(3),))]
        for many in range(6):
            outcome, requests = body_run(body, (answers + [ok(TRUE), ("failed", 1)])[:many])
            if many < 3:
                self.assertEqual((outcome, requests), (("waits", rows[many]), rows[:many + 1]))
            else:
                self.assertEqual((outcome, requests), (("done", whole(8)), rows))

    def test_waiting_is_no_failure(self):
        self.assertEqual(body_run("try { do now; } catch c { return 1; } return 2;")[0], ("waits", ("now",)))
        self.assertEqual(body_run("try { do now; } catch c { return 1; } return 2;", most=1)[0], ("tired",))


class TestStatementCounts(unittest.TestCase):
    def check(self, body, needed, wanted, **more):
        """Checks a run with each number of statements until it is no longer tired, and beyond."""
        for most in range(needed + 3):
            outcome, _ = body_run(body, most=most, **more)
            self.assertEqual(outcome, wanted if most >= needed else ("tired",), (body, most))

    def test_counts(self):
        done = ("done", ONE)
        self.check("return 1;", 1, done)
        self.check("do 1; let a = 2; set a = 3; return 1;", 4, done)
        self.check("if true { do 1; } else { do 2; do 3; } return 1;", 3, done)
        self.check("if false { do 1; } else { do 2; do 3; } return 1;", 4, done)
        self.check("try { do 1; do 2; } catch c { do 3; } return 1;", 4, done)
        self.check("try { do 1 / 0; do 2; } catch c { do 3; do 4; } return 1;", 5, done)
        self.check("while false { do 1; } return 1;", 2, done)
        # The while itself, three times its body, three times its test again, and the return.
        self.check("while n < 10 { set n = n + 1; } return 1;", 8, done)
        self.check("while n < 10 { set n = n + 1; do n; } return 1;", 11, done)
        self.check("while n < 10 { set n = n + 1; if n = 9 { return 1; } } return 1;", 7, done)
        self.check("while n < 9 { let k = 0; while k < 2 { set k = k + 1; } set n = n + 1; } return 1;", 18, done)
        self.check("return g(g(1));", 5, done, others="fn g(n: int): int { do n; return n; }")
        self.check("fail 300;", 1, ("failed", 300))
        self.check("do now; return 1;", 1, ("waits", ("now",)))

    def test_endless_loops(self):
        for most in (0, 1, 2, 50):
            self.assertEqual(body_run("while true { } return 1;", most=most)[0], ("tired",))
            self.assertEqual(body_run("try { while true { } } catch c { } return 1;", most=most)[0], ("tired",))
        _, requests = body_run("while true { do random(3); } return 1;", [ok(ONE)] * 99, most=20)
        self.assertEqual(len(requests), 10)

    def test_beside_another_meaning(self):
        for seed in range(60):
            rng = random.Random(seed)
            program = Maker(rng).program()
            name, params = program[0][1:3]
            values = [random_value(rng, kind, True) for _, kind in params]
            for most in range(40):
                outcome, requests, answers = recorded(program, name, values, seed, 6, most)
                self.assertEqual(run(program, name, values, answers, most), (outcome, requests))
                if outcome != ("tired",):
                    break


class TestRandom(unittest.TestCase):
    def program(self, seed, rng):
        return Maker(rng, loops=seed % 2 == 0, rings=seed % 3 > 0).program()

    def test_beside_another_meaning(self):
        for seed in range(400):
            rng = random.Random(seed)
            program = self.program(seed, rng)
            for _, name, params, _, _ in program:
                values = [random_value(rng, kind, rng.random() < 0.7) for _, kind in params]
                outcome, requests, answers = recorded(program, name, values, seed, rng.choice([0, 1, 5, 20]))
                told = check_untouched(self, run, program, name, values, answers, 1000)
                self.assertEqual(told, (outcome, requests))
                if outcome[0] != "waits":
                    # More answers change nothing.
                    self.assertEqual(run(program, name, values, answers + [("failed", 9)] * 3, 1000), told)
                for many in range(len(answers)):
                    few = run(program, name, values, answers[:many], 1000)
                    self.assertEqual(few, (("waits", requests[many]), requests[:many + 1]))

    def test_beside_the_machine(self):
        """The machine and the meaning have the same outcomes and requests, and the effects of their function."""
        seen = {"done": 0, "failed": 0, "waits": 0}
        quiet_runs = 0
        for seed in range(400):
            rng = random.Random(seed + 5000)
            program = self.program(seed, rng)
            codes, known, quiet = compile_program(program), effects(program), without_requests(program)
            for _, name, params, _, _ in program:
                values = [random_value(rng, kind, rng.random() < 0.7) for _, kind in params]
                outcome, _, answers = recorded(program, name, values, seed, rng.choice([0, 1, 2, 12]))
                told, requests = run(program, name, values, answers, 1000)
                if told == ("tired",):
                    continue
                machine, left, asked = Machine(codes, name, values), list(answers), []
                while machine.run(10 ** 6)[0] == "waits":
                    asked.append(machine.asked)
                    if not left:
                        break
                    machine.answer(left.pop(0))
                self.assertEqual((machine.outcome(), asked), (told, requests))
                seen[told[0]] += 1
                self.assertTrue(all(allows_request(known[name], request) for request in requests))
                if told[0] == "failed":
                    self.assertTrue(allows_failure(known[name], told[1]))
                if name in quiet:
                    quiet_runs += 1
                    self.assertNotEqual(told[0], "waits")
                    self.assertEqual(run(program, name, values, [("failed", 7)] * 5, 1000), (told, []))
        self.assertGreater(min(seen.values()), 100)
        self.assertGreater(quiet_runs, 100)


if __name__ == "__main__":
    unittest.main()
