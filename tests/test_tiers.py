import random
import unittest

from flowreprise.compiling import compile_program, signatures
from flowreprise.errors import StateError
from flowreprise.folding import fold
from flowreprise.lifting import lift
from flowreprise.machine import Machine, resumed
from flowreprise.meaning import run
from flowreprise.tiers import Tiered
from flowreprise.trees import read_program
from flowreprise.verifying import verify
from tests.helper import KINDS, Maker, answers_of, check_untouched, random_value
from tests.test_lifting import followers, runs_by_words, stepped

ONE, NONE = ("int", 1), ("nothing",)
SUM = "fn f(n: int): int { let s = 0; let k = 0; while k < n { set k = k + 1; set s = s + k; } return s; }"


def whole(n):
    return ("int", n)


class ByWords:
    """A tiered machine by the words of points 54 and 55: steps of a machine, and how many of them are done at one go."""

    def __init__(self, codes, function, values):
        self.codes = codes
        self.machine = Machine(codes, function, values)
        self.promoted = {}
        self.way = None
        self.done = 0
        self.gave_way = 0

    def promote(self, name, known, hot):
        self.demote(name)
        rows = self.codes[name][4]
        ways = {first: list(range(first, end + 1)) for first, end in runs_by_words(rows)}
        self.promoted[name] = {"known": dict(known), "hot": hot, "ways": ways, "counts": {}}

    def demote(self, name):
        if self.promoted.pop(name, None) and self.way and self.way[0] == name:
            self.way = None

    def run(self, most):
        last = self.machine.steps + most
        while self.machine.steps < last and self.machine.outcome() is None:
            self.go_on(last - self.machine.steps)
        return self.machine.outcome() or ("tired",)

    def go_on(self, left):
        name, at, slots, stack, guards = self.machine.frames()[-1]
        told, rows, depth = self.promoted.get(name), self.codes[name][4], len(self.machine.frames())
        if told and not self.way and at in told["ways"] and len(told["ways"][at]) - 1 <= left:
            if self.fits(rows, told["ways"][at], told["known"], slots, stack):
                self.done += 1
                for place in told["ways"][at][1:]:
                    self.machine.step()
                    assert self.machine.frames()[-1][1] == place
                return
            self.gave_way += 1
        self.machine.step()
        after = self.machine.frames()
        place = after[-1][1] if len(after) == depth else None
        if self.way:
            self.follow(told, rows, at, place, stepped(rows, [at, place], slots, stack) if place in followers(
                rows, at) else None)
        elif told and told["hot"] and rows[at][0] in ("jump", "unless") and place <= at:
            told["counts"][place] = told["counts"].get(place, 0) + 1
            if told["counts"][place] == told["hot"]:
                self.way = (name, [place])

    def follow(self, told, rows, at, place, result):
        name, places = self.way
        places.append(place)
        if result is None or len(places) > 61 or place != places[0] and len(places) == 61:
            self.way = None
        elif place == places[0]:
            self.way = None
            if fold(lift(rows, places), told["known"]) is not None:
                told["ways"][place] = places

    def fits(self, rows, places, known, slots, stack):
        put = []
        for at in places[:-1]:
            slot = rows[at][1] if rows[at][0] in ("get", "put") else None
            if rows[at][0] == "get" and slot not in put and slot in known and slots[slot] != known[slot]:
                return False
            put += [slot] if rows[at][0] == "put" else []
        return stepped(rows, places, slots, stack) is not None


class Case(unittest.TestCase):
    def begin(self, text, name, values, others=()):
        """Sets a tiered machine, one by words and a plain one at their beginning."""
        self.codes = text if isinstance(text, dict) else compile_program(read_program(text))
        self.tiered = Tiered(self.codes, name, list(values))
        self.words = ByWords(self.codes, name, list(values))
        self.plain = Machine(self.codes, name, list(values))

    def promote(self, name, known, hot):
        check_untouched(self, self.tiered.promote, name, known, hot)
        self.words.promote(name, known, hot)

    def demote(self, name):
        self.assertIsNone(self.tiered.demote(name))
        self.words.demote(name)

    def run_all(self, most):
        told = self.plain.run(most)
        self.assertEqual(self.tiered.run(most), told)
        self.assertEqual(self.words.run(most), told)
        self.check_same()
        return told

    def check_same(self):
        self.assertEqual(self.tiered.outcome(), self.plain.outcome())
        self.assertEqual(self.tiered.frames(), self.plain.frames())
        self.assertEqual(self.tiered.saved(), self.plain.saved())
        self.assertEqual((self.tiered.done, self.tiered.gave_way), (self.words.done, self.words.gave_way))

    def answer(self, answer):
        for machine in (self.tiered, self.words.machine, self.plain):
            machine.answer(answer)
        self.check_same()

    def check_counts(self, done, gave_way):
        self.assertEqual((self.tiered.done, self.tiered.gave_way), (done, gave_way))

    def loop(self, n, hot, known=None, text=SUM):
        """Runs a loop in one run, and returns how many pieces were done and gave way."""
        self.begin(text, "f", [whole(n)])
        self.promote("f", known or {}, hot)
        self.assertEqual(self.run_all(10 ** 4)[0], "done")
        return self.tiered.done, self.tiered.gave_way


class TestRuns(Case):
    def test_new_machine(self):
        self.begin(SUM, "f", [whole(2)])
        self.check_counts(0, 0)
        self.check_same()
        self.assertEqual(self.run_all(10 ** 4), ("done", whole(3)))
        self.check_counts(0, 0)

    def test_each_run_at_one_go(self):
        self.assertEqual(self.loop(0, 0), (2, 0))
        self.assertEqual(self.loop(1, 0), (4, 0))
        self.assertEqual(self.loop(3, 0), (8, 0))

    def test_runs_of_each_length(self):
        for most in range(1, 45):
            self.begin(SUM, "f", [whole(4)])
            self.promote("f", {}, 0)
            while self.run_all(most) == ("tired",):
                pass
            self.assertEqual(self.tiered.outcome(), ("done", whole(10)))

    def test_steps_that_are_allowed(self):
        # The first run is 4 instructions long, the second one 3.
        for most, done in ((3, 0), (4, 1), (6, 1), (7, 2)):
            self.begin(SUM, "f", [whole(4)])
            self.promote("f", {}, 0)
            self.run_all(most)
            self.check_counts(done, 0)
        self.begin(SUM, "f", [whole(1)])
        self.promote("f", {}, 0)
        self.run_all(1)
        # What does not begin at the beginning of a run goes step by step up to its end.
        self.run_all(3)
        self.check_counts(0, 0)
        self.run_all(2)
        self.run_all(1)
        self.check_counts(0, 0)
        self.run_all(100)
        self.check_counts(2, 0)

    def test_no_steps(self):
        self.begin(SUM, "f", [whole(4)])
        self.promote("f", {}, 1)
        self.assertEqual(self.run_all(0), ("tired",))

    def test_functions_that_are_not_promoted(self):
        text = "fn f(n: int): int { let a = g(n) + g(n); return a; } fn g(n: int): int { let b = n + 1; return b; }"
        for name, done in (("f", 1), ("g", 2)):
            self.begin(text, "f", [whole(4)])
            self.promote(name, {}, 0)
            self.assertEqual(self.run_all(100), ("done", whole(10)))
            self.check_counts(done, 0)

    def test_requests(self):
        text = "fn f(n: int): int { let a = n + 1; let b = await act pay(a): int; let c = a * b; return c + b; }"
        self.begin(text, "f", [whole(4)])
        self.promote("f", {}, 1)
        self.assertEqual(self.run_all(100), ("waits", ("act", "pay", whole(5), "int")))
        # A run has no requests: it ends before one, and another one begins behind it.
        self.check_counts(1, 0)
        self.answer(("ok", whole(3)))
        self.assertEqual(self.run_all(100), ("done", whole(18)))
        self.check_counts(2, 0)
        self.begin(text, "f", [whole(4)])
        self.promote("f", {}, 1)
        self.run_all(100)
        self.tiered.call_off()
        self.assertEqual(self.tiered.run(5), ("failed", 5))
        self.assertRaises(StateError, self.tiered.call_off)
        self.assertRaises(StateError, self.tiered.answer, ("ok", ONE))


class TestGivingWay(Case):
    def test_failures(self):
        text = "fn f(n: int): int { let a = 6 / n; return a + 1; }"
        self.begin(text, "f", [whole(0)])
        self.promote("f", {}, 0)
        self.assertEqual(self.run_all(100), ("failed", 1))
        self.check_counts(0, 1)
        text = "fn f(n: int): int { try { let a = 6 / n; return a; } catch c { let b = c + 40; return b; } }"
        self.begin(text, "f", [whole(0)])
        self.promote("f", {}, 0)
        self.assertEqual(self.run_all(100), ("done", whole(41)))
        self.check_counts(1, 1)

    def test_known_values(self):
        text = "fn f(n: int): int { let a = n + 1; return a; }"
        for known, counts in (({0: whole(4)}, (1, 0)), ({0: whole(5)}, (0, 1)), ({1: whole(4)}, (1, 0)),
                              ({0: ("text", "x")}, (0, 1)), ({0: NONE, 1: NONE}, (0, 1))):
            self.begin(text, "f", [whole(4)])
            self.promote("f", known, 0)
            self.assertEqual(self.run_all(100), ("done", whole(5)))
            self.check_counts(*counts)

    def test_each_time(self):
        text = "fn f(n: int): int { let k = 0; while k < n { set k = k + 1; let b = 10 / (k - 3) + 1; } return k; }"
        self.begin(text, "f", [whole(5)])
        self.promote("f", {}, 0)
        self.assertEqual(self.run_all(1000), ("failed", 1))
        self.check_counts(1 + 3 + 2, 1)
        self.begin(text, "f", [whole(5)])
        self.promote("f", {0: whole(4)}, 0)
        self.run_all(1000)
        # What knows another value gives way at the test each time.
        self.check_counts(1 + 2, 4)

    def test_in_the_midst_of_a_run(self):
        self.begin(SUM, "f", [whole(3)])
        self.run_all(9)
        self.promote("f", {0: whole(2)}, 0)
        self.run_all(1)
        self.check_counts(0, 0)
        self.run_all(1000)
        self.assertEqual(self.tiered.outcome(), ("done", whole(6)))


class TestRecording(Case):
    def test_the_so_manieth_time(self):
        # The first run, two of each turn, the turns at one go; then the loop's piece gives way at the last test.
        self.assertEqual(self.loop(3, 1), (1 + 2 + 1, 1))
        self.assertEqual(self.loop(10, 1), (1 + 2 + 8, 1))
        self.assertEqual(self.loop(10, 2), (1 + 4 + 7, 1))
        self.assertEqual(self.loop(10, 9), (1 + 18, 1))
        # The loop's way is recorded up to the end of the loop, and does not lead back.
        self.assertEqual(self.loop(10, 10), (1 + 20, 0))
        self.assertEqual(self.loop(10, 11), self.loop(10, 0))
        self.assertEqual(self.loop(2, 1), (1 + 2, 1))
        self.assertEqual(self.loop(1, 1), (1 + 2, 0))
        self.assertEqual(self.loop(0, 1), self.loop(0, 0))

    def test_step_by_step(self):
        for most in range(1, 40):
            for hot in (1, 2, 3):
                self.begin(SUM, "f", [whole(9)])
                self.promote("f", {}, hot)
                while self.run_all(most) == ("tired",):
                    pass
                if most < 13:
                    self.assertEqual(self.tiered.gave_way, 0)

    def test_known_values(self):
        self.assertEqual(self.loop(10, 1, {0: whole(10)}), (1 + 2 + 8, 1))
        # Where another value is known of the parameter, the test and then the turns give way; the bodies do not know it.
        self.assertEqual(self.loop(10, 1, {0: whole(9)}), (1 + 1 + 8, 1 + 9))
        # There is no folded piece if the test is known to fail, so that of the run stays.
        self.assertEqual(self.loop(4, 1, {0: whole(4), 2: whole(7)}), (1, 2 + 0 + 2 + 2 + 1))

    def test_ways_that_do_not_lead_back(self):
        for inner, back in (
                ("set k = k + 1;", True), ("set k = g(k);", False), ("set k = k + await act pay(k): int;", False),
                ("set k = k + 1; try { } catch c { }", False), ("try { set k = k + 1; } catch c { }", False),
                ("set k = k + 1; do now;", False), ("set k = k + 1; do random(5);", False),
                ("if k = 50 { return 3; } set k = k + 1;", True), ("if k = 50 { fail 300; } set k = k + 1;", True)):
            text = "fn f(n: int): int { let k = 0; while k < n { " + inner + " } return k; } fn g(n: int): int { return n + 1; }"
            self.begin(text, "f", [whole(9)])
            self.promote("f", {}, 1)
            while self.run_all(10 ** 4)[0] == "waits":
                self.answer(("ok", ONE))
            self.assertEqual(self.tiered.outcome(), ("done", whole(9)))
            self.assertEqual(self.tiered.gave_way, 1 if back else 0, inner)

    def test_a_failure_while_a_way_is_recorded(self):
        """The function that fails is left, and what catches the failure does its runs at one go."""
        text = """fn f(n: int): int { let s = 0; try { set s = g(n); } catch c { let a = c; let b = 2; set s = a + b; } return s; }
            fn g(n: int): int { let k = 0; while k < 9 { set k = k + 1; set n = n - 1; let q = 6 / n; } return k; }"""
        # Two runs of "f", the first one of "g" and those of its first turn are done; then turns give way, and so do their bodies.
        for n, done, gave_way in ((1, 2 + 1 + 1, 1), (2, 2 + 1 + 2, 0), (3, 2 + 1 + 2, 2), (4, 2 + 1 + 2 + 1, 2)):
            self.begin(text, "f", [whole(n)])
            self.promote("f", {}, 1)
            self.promote("g", {}, 1)
            self.assertEqual(self.run_all(1000), ("done", whole(3)))
            self.check_counts(done, gave_way)

    def test_sixty_steps(self):
        # The test is 4 instructions, "set" and the jump are 5, and each "do" is 2.
        inner = "set k = k + 1; " + "do 1; " * 25
        for test, back in (("k < n", True), ("not (n <= k)", True), ("not not (k < n)", False), ("k < n and k < 99", False)):
            text = "fn f(n: int): int { let k = 0; while " + test + " { " + inner + "} return k; }"
            self.assertEqual(self.loop(9, 1, text=text)[1], 1 if back else 0, test)
        # A way that has just been given up is not recorded again, as its time is over.
        long = "fn f(n: int): int { let k = 0; while k < n { " + inner + "do 1; } return k; }"
        self.assertEqual(self.loop(30, 1, text=long), (1 + 2 + 28 * 2 + 1, 0))

    def test_other_ways_through_a_loop(self):
        text = """fn f(n: int): int { let k = 0; let s = 0;
            while k < n { set k = k + 1; if k / 3 * 3 = k { set s = s + 1; } else { set s = s - 1; } } return s; }"""
        done, gave_way = self.loop(12, 1, text=text)
        # The way of k = 2 is done at one go for 4, 5, 7, 8, 10 and 11, and gives way for the others and at the end.
        self.assertEqual(gave_way, 4 + 1)
        self.assertGreater(done, 6)
        self.loop(30, 3, text=text)

    def test_loops_inside_of_loops(self):
        text = """fn f(n: int): int { let k = 0; let s = 0;
            while k < n { set k = k + 1; let j = 0; while j < k { set j = j + 1; set s = s + j; } } return s; }"""
        for hot in range(6):
            for n in (1, 2, 3, 5, 8):
                self.loop(n, hot, text=text)
        for most in (1, 2, 5, 13, 20, 33):
            self.begin(text, "f", [whole(7)])
            self.promote("f", {}, 2)
            while self.run_all(most) == ("tired",):
                pass

    def test_calls_of_the_same_function(self):
        text = """fn f(n: int): int { let k = 0; while k < n { set k = k + 1; } if n < 1 { return 0; }
            let r = f(n - 1); set k = 0; while k < n { set k = k + 1; } return r + k; }"""
        for hot in (0, 1, 2, 3, 5):
            self.loop(8, hot, text=text)
        self.begin(text, "f", [whole(40)])
        self.promote("f", {}, 2)
        self.assertEqual(self.run_all(10 ** 5), ("failed", 4))

    def test_counting_is_only_of_steps(self):
        # The jump in a piece that is done at one go does not count for the place.
        text = """fn f(n: int): int { let k = 0; while k < n { set k = k + 1; if k = 6 { do g(k); } } return k; }
            fn g(n: int): int { return n; }"""
        self.begin(text, "f", [whole(20)])
        self.promote("f", {}, 1)
        self.run_all(10 ** 4)
        self.assertEqual(self.tiered.gave_way, 2)


class TestCode(Case):
    """Code that no program gives."""

    def code(self, rows, params=1, slots=1):
        return {"f": ("code", "f", params, slots, rows)}

    def test_jump_to_itself(self):
        self.begin(self.code([("jump", 0)]), "f", [ONE])
        self.promote("f", {}, 3)
        self.assertEqual(self.run_all(3), ("tired",))
        self.check_counts(0, 0)
        # The third time the way is recorded, which is the fourth step.
        self.run_all(1)
        self.check_counts(0, 0)
        self.run_all(5)
        self.check_counts(5, 0)

    def test_unless_leads_back(self):
        rows = [("get", 0), ("push", ONE), ("op", "+"), ("put", 0), ("push", whole(9)), ("get", 0), ("op", "<"), ("unless", 0),
                ("get", 0), ("return",)]
        for hot in range(12):
            self.begin(self.code(rows), "f", [whole(0)])
            self.promote("f", {}, hot)
            self.assertEqual(self.run_all(1000), ("done", whole(10)))
        self.begin(self.code(rows), "f", [whole(0)])
        self.promote("f", {}, 1)
        self.run_all(1000)
        self.check_counts(1 + 7 + 0, 1)
        rows = [("push", ("bool", False)), ("unless", 0)]
        self.begin(self.code(rows), "f", [ONE])
        self.promote("f", {}, 1)
        self.run_all(21)
        self.check_counts(8, 0)
        # One step to the beginning of the way, and two more.
        self.run_all(2)
        self.check_counts(8, 0)
        self.run_all(1)
        self.run_all(2)
        self.check_counts(9, 0)


    def test_failures_that_lead_back_do_not_count(self):
        rows = [("push", ONE), ("put", 1), ("guard", 0, 2), ("push", ONE), ("push", whole(0)), ("op", "/"), ("return",)]
        self.begin(self.code(rows, 1, 3), "f", [ONE])
        self.promote("f", {}, 1)
        # Each time, the first run is done at one go, and the second one gives way.
        self.assertEqual(self.run_all(6 * 10), ("tired",))
        self.check_counts(10, 10)

    def test_a_call_on_the_way_back(self):
        rows = [("push", whole(0)), ("jump", 3), ("call", "g", 0), ("put", 0), ("get", 0), ("push", whole(5)), ("op", "<"),
                ("unless", 12), ("get", 0), ("push", ONE), ("op", "+"), ("jump", 3), ("jump", 2)]
        codes = {**self.code(rows), "g": ("code", "g", 0, 0, [("push", whole(0)), ("return",)])}
        verify(codes, {"f": (["int"], "int"), "g": ([], "int")})
        for hot in range(9):
            self.begin(codes, "f", [ONE])
            self.promote("f", {}, hot)
            self.run_all(400)
        # At the fifth time the way leads to the place by the call, and is not done at one go.
        self.begin(codes, "f", [ONE])
        self.promote("f", {}, 5)
        self.run_all(47)
        self.check_counts(10, 0)
        for done in (10, 12, 14):
            self.assertEqual(self.tiered.frames()[-1][1], 3)
            self.run_all(9)
            self.check_counts(done, 0)


class TestPromotion(Case):
    def test_promoting_anew_counts_anew(self):
        self.begin(SUM, "f", [whole(20)])
        self.promote("f", {}, 3)
        # 4 steps before the loop, and 13 for each turn.
        self.run_all(4 + 13 * 2)
        self.promote("f", {}, 3)
        self.run_all(13 * 3)
        self.check_counts(1 + 2 * 5, 0)
        # The way is recorded from here on.
        self.run_all(13)
        self.check_counts(1 + 2 * 5, 0)
        self.run_all(13 * 2)
        self.check_counts(1 + 2 * 5 + 2, 0)

    def test_promoting_anew_while_a_way_is_recorded(self):
        self.begin(SUM, "f", [whole(20)])
        self.promote("f", {}, 1)
        self.run_all(4 + 13 + 5)
        self.check_counts(3, 0)
        self.promote("f", {0: whole(20)}, 0)
        self.run_all(8)
        self.check_counts(3, 0)
        # No way has been recorded: the runs are done, not the turns.
        self.run_all(13 * 2)
        self.check_counts(3 + 4, 0)

    def test_promoting_another_one_while_a_way_is_recorded(self):
        self.begin(SUM + " fn g(n: int): int { return n + 1; }", "f", [whole(20)])
        self.promote("f", {}, 1)
        self.run_all(4 + 13 + 5)
        self.promote("g", {}, 1)
        self.demote("g")
        self.run_all(8)
        self.run_all(13 * 2)
        self.check_counts(3 + 2, 0)

    def test_demoting(self):
        self.begin(SUM, "f", [whole(20)])
        self.promote("f", {}, 1)
        self.run_all(4 + 13 * 5 + 3)
        done = self.tiered.done
        self.demote("f")
        self.run_all(13 * 3)
        self.check_counts(done, 0)
        self.promote("f", {}, 0)
        self.run_all(10 ** 4)
        self.assertGreater(self.tiered.done, done)
        # A function that is not promoted may be demoted, too.
        self.demote("f")
        self.demote("f")

    def test_demoting_while_a_way_is_recorded(self):
        self.begin(SUM, "f", [whole(20)])
        self.promote("f", {}, 1)
        self.run_all(4 + 13 + 5)
        self.demote("f")
        self.run_all(13)
        self.promote("f", {}, 0)
        self.run_all(13 * 3)
        self.run_all(1000)
        self.assertEqual(self.tiered.gave_way, 0)

    def test_known_values_are_not_shared(self):
        self.begin(SUM, "f", [whole(20)])
        known = {0: whole(20)}
        self.promote("f", known, 1)
        known[0] = whole(3)
        self.run_all(10 ** 4)
        self.check_counts(1 + 2 + 18, 1)

    def test_saved_machines(self):
        self.begin(SUM, "f", [whole(20)])
        self.promote("f", {}, 1)
        self.run_all(100)
        other = resumed(self.codes, self.tiered.saved())
        self.assertEqual((other.run(10 ** 4), other.steps), (("done", whole(210)), 4 + 13 * 20 + 6))
        self.run_all(10 ** 4)
        self.assertEqual(other.saved(), self.tiered.saved())

    def test_a_loop_at_one_go(self):
        # Each turn of the loop is one piece, however long it goes.
        self.begin(SUM, "f", [whole(1000)])
        self.promote("f", {}, 1)
        self.run_all(10 ** 6)
        self.check_counts(1 + 2 + 998, 1)


class TestRandom(Case):
    def known_for(self, rng, code):
        known = {}
        for slot in range(code[3]):
            held = [frame[2][slot] for frame in self.plain.frames() if frame[0] == code[1] and frame[2][slot] is not None]
            if rng.random() < 0.4:
                known[slot] = rng.choice(held) if held and rng.random() < 0.8 else random_value(rng, rng.choice(KINDS), True)
        return known

    def test_programs(self):
        ways = {"done": 0, "gave way": 0, "failed": 0, "waits": 0}
        for seed in range(160):
            rng = random.Random(seed)
            program = Maker(rng).program()
            codes = compile_program(program)
            verify(codes, signatures(program))
            answer = answers_of(seed, program, 12)
            _, name, params, _, _ = program[0]
            self.begin(codes, name, [random_value(rng, kind, True) for _, kind in params])
            for _ in range(60):
                told = rng.choice(sorted(codes))
                way = rng.random()
                if way < 0.3:
                    known = self.known_for(rng, codes[told]) if rng.random() < 0.6 else {}
                    self.promote(told, known, rng.choice([0, 1, 1, 2, 3]))
                elif way < 0.35:
                    self.demote(told)
                outcome = self.run_all(rng.choice([1, 2, 3, 7, 20, 90]))
                if outcome[0] == "waits":
                    ways["waits"] += 1
                    given = answer(outcome[1])
                    if given is None:
                        break
                    self.answer(given)
                elif outcome[0] != "tired":
                    ways["failed"] += outcome[0] == "failed"
                    break
            ways["done"] += self.tiered.done
            ways["gave way"] += self.tiered.gave_way
        self.assertGreater(min(ways.values()), 60, ways)

    def test_loops(self):
        """Programs with more loops, which are recorded."""
        many = 0
        for seed in range(150):
            rng = random.Random(seed)
            body = " ".join(rng.sample([
                "set s = s + k;", "set s = s * 2 - k;", "set s = s / (k - 7);", "if k = 4 { set s = 0; }",
                "try { set s = s / (k - 3); } catch e { set s = e; }", "if s < 0 { set s = 0 - s; }", "set s = s + g(k);",
                "let j = 0; while j < 3 { set j = j + 1; set s = s + j; }"], rng.choice([1, 1, 2])))
            text = ("fn f(n: int): int { let s = 1; let k = 0; while k < n { set k = k + 1; " + body + " } return s; } "
                    "fn g(n: int): int { let i = 0; while i < n { set i = i + 2; } return i; }")
            self.begin(text, "f", [whole(rng.choice([2, 5, 9, 30]))])
            for _ in range(40):
                if rng.random() < 0.15:
                    name = rng.choice(["f", "g"])
                    self.promote(name, self.known_for(rng, self.codes[name]) if rng.random() < 0.3 else {}, rng.choice([0, 1, 2, 5]))
                if self.run_all(rng.choice([1, 5, 13, 30, 100]))[0] != "tired":
                    break
            many += self.tiered.done
        self.assertGreater(many, 800)

    def test_beside_the_meaning(self):
        """The outcome and the request are those of the meaning with the answers so far."""
        seen = 0
        for seed in range(120):
            rng = random.Random(seed)
            program = Maker(rng, loops=seed % 2 == 0).program()
            answer = answers_of(seed, program, 8)
            _, name, params, _, _ = rng.choice(program)
            values = [random_value(rng, kind, True) for _, kind in params]
            self.begin(compile_program(program), name, values)
            for told in self.codes:
                self.promote(told, {}, 1)
            answers = []
            while True:
                outcome = self.run_all(3000)
                meant, _ = run(program, name, values, answers, 1000)
                if ("tired",) not in (outcome, meant):
                    self.assertEqual(outcome, meant)
                    seen += 1
                given = answer(outcome[1]) if outcome[0] == "waits" else None
                if given is None:
                    break
                answers.append(given)
                self.answer(given)
        self.assertGreater(seen, 100)


if __name__ == "__main__":
    unittest.main()
