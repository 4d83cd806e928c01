import random
import unittest

from flowreprise.effects import (
    allows_failure, allows_request, effects, has_ring, own_effects, reached, way, way_right, without_requests)
from flowreprise.trees import read_program
from tests.helper import Maker, Meaning, answers_of, check_untouched, random_value


def function(body, name="f", params="a: int, t: text, r: [int]"):
    return f"fn {name}({params}): int {{ {body} return 0; }} "


OTHERS = "fn g(): int { return 1; } fn h(): [text] { return [text:]; }"


def own(body, others=OTHERS):
    return own_effects(read_program(function(body) + others), 0)


class TestExample(unittest.TestCase):
    def test_example(self):
        program = read_program(
            "fn f(a: int): int { return g(a) / 2; } "
            "fn g(a: int): int { try { fail a; } catch c { return c + now; } return 1; }")
        self.assertEqual(effects(program)["f"], ["fails", "fails 2", "now"])
        self.assertEqual(way(program, "f", "now"), [(0, 0, 0, 0), (1, 0, 2, 0, 0, 1)])


class TestOwnEffects(unittest.TestCase):
    def test_requests(self):
        for text, effect, parts in (
                ("await act pay(t): [[int]]", "act pay: [[int]]", 1), ("await act pay(1): nothing", "act pay: nothing", 1),
                ("await timer(a)", "timer", 1), ("await signal go: bool", "signal go: bool", 0),
                ("await signal go: [text]", "signal go: [text]", 0), ("await flow g()", "flow g", 0),
                ("await flow h()", "flow h", 0), ("now", "now", 0), ("random(a)", "random", 1)):
            with self.subTest(text=text):
                self.assertEqual(own(f"do {text};"), [(effect, (0, 0, 0)), ("fails", (0, 0, 0))])
                self.assertEqual(own(f"try {{ do {text}; }} catch c {{ }}"), [(effect, (0, 0, 1, 0, 0))])
                self.assertEqual(
                    own(f"try {{ }} catch c {{ do {text}; }}"), [(effect, (0, 0, 2, 0, 0)), ("fails", (0, 0, 2, 0, 0))])

    def test_failing(self):
        for text, effect in (
                ("fail 100;", "fails 100"), ("fail 999;", "fails 999"), ("fail 404;", "fails 404"),
                ("fail 99;", "fails 2"), ("fail 1000;", "fails 2"), ("fail 0;", "fails 2"), ("fail a;", "fails"),
                ("fail -404;", "fails"), ("fail (404);", "fails 404"), ("fail size(t);", "fails")):
            with self.subTest(text=text):
                self.assertEqual(own(text), [(effect, (0, 0))])
                self.assertEqual(own(f"do a; while true {{ {text} }}"), [(effect, (0, 1, 1, 0))])
                self.assertEqual(own(f"try {{ {text} }} catch c {{ }}"), [])
                self.assertEqual(own(f"try {{ if true {{ }} else {{ {text} }} }} catch c {{ }}"), [])
                self.assertEqual(own(f"try {{ try {{ }} catch c {{ {text} }} }} catch d {{ }}"), [])
                self.assertEqual(own(f"try {{ }} catch c {{ {text} }}"), [(effect, (0, 0, 2, 0))])

    def test_signs(self):
        for text, effect in (
                ("a + a", "fails 2"), ("a - 1", "fails 2"), ("1 * 1", "fails 2"), ("t & t", "fails 2"),
                ("r & [int:]", "fails 2"), ("a / a", "fails 1"), ("a / 0", "fails 1"), ("a / 1", None),
                ("a / 1000000000000", None), ("a / -1", "fails 1"), ("a / (2)", None), ("r[a]", "fails 3"),
                ("r[0]", "fails 3"), ("a = a", None), ("a != a", None), ("a < a", None), ("t <= t", None),
                ("true and false", None), ("true or false", None), ("not true", None), ("-a", None), ("size(t)", None),
                ("text(a)", None), ("[int: a, 1]", None), ("a", None), ("nothing", None), ("g()", None)):
            with self.subTest(text=text):
                wanted = [] if effect is None else [(effect, (0, 0, 0))]
                self.assertEqual(own(f"do {text};"), wanted)
                self.assertEqual(own(f"try {{ do {text}; }} catch c {{ }}"), [])

    def test_order_and_places(self):
        self.assertEqual(own("let x = (a + r[0]) * random(a - 1);"), [
            ("fails 3", (0, 0, 0, 0, 1)), ("fails 2", (0, 0, 0, 0)), ("fails 2", (0, 0, 0, 1, 0)),
            ("random", (0, 0, 0, 1)), ("fails", (0, 0, 0, 1)), ("fails 2", (0, 0, 0))])
        self.assertEqual(own("fail r[a];"), [("fails 3", (0, 0, 0)), ("fails", (0, 0))])
        self.assertEqual(own("if now = 1 { do r[0]; fail 1; } else { fail 300; } do a * a;"), [
            ("now", (0, 0, 0, 0)), ("fails", (0, 0, 0, 0)), ("fails 3", (0, 0, 1, 0, 0)), ("fails 2", (0, 0, 1, 1)),
            ("fails 300", (0, 0, 2, 0)), ("fails 2", (0, 1, 0))])
        self.assertEqual(own("try { do now; do r[1]; } catch c { set a = c + 1; }"), [
            ("now", (0, 0, 1, 0, 0)), ("fails 2", (0, 0, 2, 0, 0))])
        self.assertEqual(own("do [[int]: [int: 1], [int: a, r[2]]][0];"), [
            ("fails 3", (0, 0, 0, 0, 1, 1)), ("fails 3", (0, 0, 0))])
        self.assertEqual(
            own("do k(1, a + 1); do await flow k(now, 2);", "fn k(x: int, y: int): int { return x; }"), [
                ("fails 2", (0, 0, 0, 1)), ("now", (0, 1, 0, 0)), ("fails", (0, 1, 0, 0)), ("flow k", (0, 1, 0)),
                ("fails", (0, 1, 0))])
        program = read_program(OTHERS + function("do await act pay(r[0]): int;"))
        self.assertEqual(own_effects(program, 2), [
            ("fails 3", (2, 0, 0, 0)), ("act pay: int", (2, 0, 0)), ("fails", (2, 0, 0))])

    def test_calls_in_programs_with_rings(self):
        rings = {
            "one": "fn g(): int { return g(); }",
            "two": "fn g(): int { return h(); } fn h(): int { return g(); }",
            "three": "fn g(): int { return h(); } fn h(): int { return k(); } fn k(): int { if true { do g(); } return 1; }"}
        for others in rings.values():
            program = read_program(function("do 1 = g(); try { do g(); } catch c { do g(); }") + others)
            self.assertTrue(has_ring(program))
            self.assertEqual(own_effects(program, 0), [("fails 4", (0, 0, 0, 1)), ("fails 4", (0, 1, 2, 0, 0))])
            self.assertEqual(own_effects(program, 1), [("fails 4", (1, 0, 0))])
            self.assertEqual(effects(program)["f"], ["fails 4"])
        program = read_program(function("do g();") + "fn g(): int { return h(); } fn h(): int { return 1; }")
        self.assertFalse(has_ring(program))
        self.assertEqual(own_effects(program, 0), [])
        program = read_program("fn f(): int { return await flow f(); }")
        self.assertFalse(has_ring(program))
        self.assertEqual(own_effects(program, 0), [("flow f", (0, 0, 0)), ("fails", (0, 0, 0))])


class TestEffects(unittest.TestCase):
    def test_passed_on_by_calls(self):
        program = read_program(
            function("do g();") + function("do now; fail 300;", "g", "") + function("try { do g(); } catch c { }", "h", "")
            + function("try { } catch c { do g(); }", "k", "") + function("do h();", "m", "")
            + function("do await flow g();", "n", ""))
        self.assertEqual(check_untouched(self, effects, program), {
            "f": ["fails", "fails 300", "now"], "g": ["fails", "fails 300", "now"], "h": ["now"],
            "k": ["fails", "fails 300", "now"], "m": ["now"], "n": ["fails", "flow g"]})
        self.assertEqual(check_untouched(self, without_requests, program), [])

    def test_rings(self):
        program = read_program(
            function("if a < 0 { do g(); } else { fail 777; }", params="a: int")
            + function("try { do f(1); } catch c { do await timer(c); } do h();", "g", "")
            + function("do 1 / 0;", "h", ""))
        self.assertEqual(effects(program), {
            "f": ["fails", "fails 1", "fails 4", "fails 777", "timer"], "g": ["fails", "fails 1", "fails 4", "timer"],
            "h": ["fails 1"]})

    def test_ascending_as_texts(self):
        program = read_program(function(
            "fail 404; fail 1; fail a; do 1 / 0; do await signal go: int; do await act z(1): int; do await act a(1): int; "
            "do await flow f(1, t, r); do now; do random(1); do await timer(1); do await act a(1): [int];"))
        self.assertEqual(effects(program)["f"], [
            "act a: [int]", "act a: int", "act z: int", "fails", "fails 1", "fails 2", "fails 404", "flow f", "now",
            "random", "signal go: int", "timer"])

    def test_reached(self):
        program = read_program(
            function("do g();") + function("do h(); do h();", "g", "") + function("", "h", "")
            + function("do k();", "k", "") + function("do m(); do n();", "b", "") + function("do n();", "m", "")
            + function("do m(); do await flow f(1, \"\", [int:]);", "n", ""))
        for name, wanted in (("f", ["g", "h"]), ("g", ["h"]), ("h", []), ("k", ["k"]), ("b", ["m", "n"]),
                             ("m", ["m", "n"]), ("n", ["m", "n"])):
            self.assertEqual(check_untouched(self, reached, program, name), wanted)
        self.assertIs(has_ring(program), True)
        self.assertIs(has_ring(program[:3]), False)
        self.assertEqual(without_requests(program), ["f", "g", "h", "k"])

    def test_calls_that_are_never_done_count(self):
        program = read_program("fn f(): int { return 1; do g(); } fn g(): int { fail 200; }")
        self.assertEqual(effects(program)["f"], ["fails 200"])
        self.assertEqual(reached(program, "f"), ["g"])


class TestAllowed(unittest.TestCase):
    def test_requests(self):
        known = ["act pay: [int]", "fails 3", "flow g", "now", "random", "signal go: text", "timer"]
        for request, wanted in (
                (("act", "pay", ("text", ""), ("list", "int")), True), (("act", "pay", ("int", 1), "int"), False),
                (("act", "send", ("int", 1), ("list", "int")), False), (("flow", "g", ()), True),
                (("flow", "h", (("int", 1),)), False), (("now",), True), (("random", 5), True), (("timer", 0), True),
                (("signal", "go", "text"), True), (("signal", "go", "int"), False), (("signal", "pay", "text"), False)):
            with self.subTest(request=request):
                self.assertIs(check_untouched(self, allows_request, known, request), wanted)
                self.assertIs(allows_request([], request), False)
        for request in (("now",), ("random", 1), ("timer", 1)):
            self.assertIs(allows_request(["fails"], request), False)

    def test_failures(self):
        self.assertIs(allows_failure(["fails 3", "fails 404"], 404), True)
        self.assertIs(allows_failure(["fails 3", "fails 404"], 3), True)
        self.assertIs(allows_failure(["fails 3", "fails 404"], 4), False)
        self.assertIs(allows_failure(["fails 3", "fails 404"], 40), False)
        self.assertIs(allows_failure(["fails"], 4), True)
        self.assertIs(allows_failure(["now"], 4), False)
        self.assertIs(allows_failure([], 2), False)


def calls_in(program):
    """The calls of each function by name, told otherwise than in the package."""
    found = {row[1]: [] for row in program}

    def tree(name, told, place, caught):
        if not isinstance(told, tuple):
            return
        if told[0] == "call":
            found[name].append((place, told[1], caught))
        parts = {"op": told[2:], "list": told[2:3], "call": told[2:3], "item": told[1:]}.get(told[0], told[1:2])
        if told[0] == "await":
            parts = {"act": told[3:4], "timer": told[2:3], "flow": told[3:4]}.get(told[1], ())
        if told[0] in ("int", "bool", "text", "var", "nothing", "now"):
            parts = ()
        for k, part in enumerate(parts[0] if parts and isinstance(parts[0], list) else parts):
            tree(name, part, place + (k,), caught)

    def body(name, rows, start, caught):
        for k, row in enumerate(rows):
            place = start + (k,)
            if row[0] == "try":
                body(name, row[1], place + (1,), True)
                body(name, row[3], place + (2,), caught)
                continue
            tree(name, row[2] if row[0] in ("let", "set") else row[1], place + (0,), caught)
            for n, inner in enumerate(row[2:] if row[0] in ("if", "while") else ()):
                body(name, inner, place + (n + 1,), caught)

    for at, row in enumerate(program):
        body(row[1], row[4], (at,), False)
    return found


def all_ways(program, name, effect, most):
    """All ways of at most so many places."""
    calls = calls_in(program)
    index = {row[1]: at for at, row in enumerate(program)}
    found = []

    def go(here, places):
        if len(places) == most:
            return
        found.extend(places + [place] for told, place in own_effects(program, index[here]) if told == effect)
        for place, other, caught in calls[here]:
            if not (caught and effect.startswith("fails")):
                go(other, places + [place])

    go(name, [])
    return found


class TestWays(unittest.TestCase):
    def test_one_place(self):
        program = read_program(function("try { do 1 + 1; } catch c { } if true { } else { do a + a * 2; } do 2 + 2;"))
        self.assertEqual(way(program, "f", "fails 2"), [(0, 1, 2, 0, 0)])
        self.assertIsNone(way(program, "f", "fails 1"))
        self.assertIsNone(way(program, "f", "now"))

    def test_two_places(self):
        program = read_program(
            function("do g(); do h();") + function("do now; do now;", "h", "") + function("do 1 + 1; do now;", "g", ""))
        self.assertEqual(way(program, "f", "now"), [(0, 0, 0), (2, 1, 0)])
        self.assertEqual(way(program, "f", "fails"), [(0, 0, 0), (2, 1, 0)])
        self.assertEqual(way(program, "f", "fails 2"), [(0, 0, 0), (2, 0, 0)])

    def test_three_places_and_ties(self):
        program = read_program(
            function("try { do g(); } catch c { } do h(); do g();") + function("do k();", "g", "")
            + function("do k(); do k();", "h", "") + function("if true { fail 300; } fail 300; do now;", "k", ""))
        self.assertEqual(way(program, "f", "fails 300"), [(0, 1, 0), (2, 0, 0), (3, 0, 1, 0)])
        self.assertEqual(way(program, "f", "now"), [(0, 0, 1, 0, 0), (1, 0, 0), (3, 2, 0)])
        self.assertEqual(way(program, "h", "now"), [(2, 0, 0), (3, 2, 0)])

    def test_fewest_places_before_least_ones(self):
        program = read_program(
            function("do g(); do h();") + function("do h();", "g", "") + function("do await timer(1);", "h", ""))
        self.assertEqual(way(program, "f", "timer"), [(0, 1, 0), (2, 0, 0)])
        program = read_program(function("do g(); do now;") + function("do now;", "g", ""))
        self.assertEqual(way(program, "f", "now"), [(0, 1, 0)])

    def test_rings(self):
        program = read_program(
            "fn f(): int { do f(); return g(); } fn g(): int { try { return f(); } catch c { fail 200; } }")
        self.assertEqual(way(program, "f", "fails 200"), [(0, 1, 0), (1, 0, 2, 0)])
        self.assertEqual(way(program, "f", "fails 4"), [(0, 0, 0)])
        self.assertIsNone(way(program, "g", "fails 4"))
        self.assertTrue(way_right(program, "f", "fails 200", [(0, 0, 0), (0, 0, 0), (0, 1, 0), (1, 0, 2, 0)]))

    def test_way_right(self):
        program = read_program(
            function("try { do g(); } catch c { } do h(); do g();") + function("do k();", "g", "")
            + function("do k(); do k();", "h", "") + function("if true { fail 300; } fail 300; do now;", "k", ""))
        good = [(0, 2, 0), (1, 0, 0), (3, 1)]
        self.assertIs(check_untouched(self, way_right, program, "f", "fails 300", good), True)
        self.assertIs(way_right(program, "f", "now", [(0, 0, 1, 0, 0), (1, 0, 0), (3, 2, 0)]), True)
        for wrong in ([], good[:2], good[1:], good + [(3, 1)], [(0, 0, 1, 0, 0), *good[1:]], [good[0], (2, 0, 0), good[2]],
                      [good[0], good[2]], [*good[:2], (3, 2, 0)], [*good[:2], (3, 0)], [(0,), *good[1:]],
                      [(0, 2, 0, 0), *good[1:]], [(), *good[1:]], [(9, 2, 0), *good[1:]]):
            self.assertIs(way_right(program, "f", "fails 300", wrong), False)
        self.assertIs(way_right(program, "f", "fails 301", good), False)
        self.assertIs(way_right(program, "h", "fails 300", good), False)
        self.assertIs(way_right(program, "z", "fails 300", good), False)
        self.assertIsNone(way(program, "z", "fails 300"))


class TestRandom(unittest.TestCase):
    def test_ways_and_effects(self):
        for seed in range(120):
            rng = random.Random(seed)
            program = Maker(rng).program()
            known = check_untouched(self, effects, program)
            everything = sorted({effect for told in known.values() for effect in told})
            for name in known:
                self.assertEqual(known[name], sorted(set(known[name])))
                for effect in rng.sample(everything, min(4, len(everything))):
                    found = check_untouched(self, way, program, name, effect)
                    self.assertEqual(found is not None, effect in known[name])
                    if found is None:
                        self.assertEqual(all_ways(program, name, effect, 3), [])
                    elif len(found) < 4:
                        ways = all_ways(program, name, effect, len(found))
                        self.assertEqual(found, min(ways, key=lambda told: (len(told), told)))
                        for told in ways[:20]:
                            self.assertTrue(way_right(program, name, effect, told))
                            at = rng.randrange(len(told))
                            other = told[:at] + [told[at][:-1] + (told[at][-1] + rng.choice([-1, 1]),)] + told[at + 1:]
                            self.assertEqual(way_right(program, name, effect, other), other in all_ways(
                                program, name, effect, len(other)))

    def test_runs_have_their_effects(self):
        for seed in range(300):
            rng = random.Random(seed + 1000)
            program = Maker(rng, rings=seed % 2 == 0).program()
            known = effects(program)
            quiet = without_requests(program)
            for _, name, params, _, _ in program:
                values = [random_value(rng, kind, rng.random() < 0.6) for _, kind in params]
                meaning = Meaning(program, answers_of(seed, program, rng.choice([0, 3, 30])), 1000)
                outcome = meaning.run(name, values)
                if outcome[0] == "failed":
                    self.assertTrue(allows_failure(known[name], outcome[1]))
                for request in meaning.requests:
                    self.assertTrue(allows_request(known[name], request))
                    self.assertNotIn(name, quiet)


if __name__ == "__main__":
    unittest.main()
