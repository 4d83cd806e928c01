import random
import unittest

from flowreprise.code import may_fail
from flowreprise.compiling import compile_program, signatures
from flowreprise.lifting import done_at_once, is_way, lift, node_fails, runs
from flowreprise.machine import Machine
from flowreprise.trees import read_program
from flowreprise.verifying import verify
from tests.helper import (
    KINDS, Failure, Maker, Stepping, check_untouched, mutable_ids, random_value)

PLAIN = ("push", "get", "put", "drop", "op", "not", "neg", "item", "size", "text of", "list")
ONE, TWO, NONE = ("int", 1), ("int", 2), ("nothing",)
TRUE, FALSE = ("bool", True), ("bool", False)
ADD = ("op", "+")


def followers(code, at):
    """The places that may follow one on a way."""
    word = code[at][0]
    if word == "jump":
        return [code[at][1]]
    if word == "unless":
        return [at + 1, code[at][1]]
    return [at + 1] if word in PLAIN else []


def way_by_words(code, places):
    if len(places) < 2 or any(place not in range(len(code)) for place in places):
        return False
    return all(places[k + 1] in followers(code, places[k]) for k in range(len(places) - 1))


def runs_by_words(code):
    """All longest ways of point 54, found among all pairs of places."""
    led = {row[1] for row in code if row[0] in ("jump", "unless", "guard")}
    found = []
    for first in range(len(code)):
        for end in range(first + 2, len(code)):
            inside = range(first, end)
            if all(code[at][0] in PLAIN for at in inside) and not led & set(range(first + 1, end)):
                found.append((first, end))
    return [(a, b) for a, b in found if not any((c, d) != (a, b) and c <= a and b <= d for c, d in found)]


def lift_by_words(code, places):
    """A piece, told otherwise than in the package: nodes by their names first, and numbered at the end."""
    order, stack, slots, wants, below = [], [], {}, [], 0

    def node(told):
        order.append(told)
        return len(order) - 1

    def top():
        nonlocal below
        if stack:
            return stack.pop()
        below += 1
        return node(("in", below - 1))

    for here, then in zip(places, places[1:]):
        row = code[here]
        many = {"op": 2, "item": 2, "list": row[-1], "push": 0, "get": 0, "jump": 0}.get(row[0], 1)
        parts = [top() for _ in range(many)][::-1]
        if row[0] == "push":
            stack.append(node(("push", row[1])))
        elif row[0] == "get":
            known = [k for k, told in enumerate(order) if told == ("slot", row[1])]
            stack.append(slots[row[1]] if row[1] in slots else known[0] if known else node(("slot", row[1])))
        elif row[0] == "put":
            slots[row[1]] = parts[0]
        elif row[0] == "unless":
            if row[1] != here + 1:
                wants.append((parts[0], then == here + 1))
        elif row[0] not in ("jump", "drop"):
            stack.append(node(("make", row, parts)))
    return ("piece", (places[0], places[-1], len(places) - 1), [], below, order, wants, stack, sorted(slots.items()))


def stepped(code, places, slots, stack):
    """The slots and the stack behind a way, step by step, or None."""
    stepping = Stepping({}, None, 10 ** 6)
    frame = {"rows": code, "at": places[0], "slots": list(slots), "stack": list(stack), "guards": []}
    stepping.frames = [frame]
    for place in places[1:]:
        try:
            stepping.step()
        except Failure:
            return None
        if frame["at"] != place:
            return None
    return frame["slots"], frame["stack"]


class Case(unittest.TestCase):
    def lifted(self, code, places):
        piece = check_untouched(self, lift, code, places)
        self.assertEqual(piece, lift_by_words(code, places))
        return piece

    def done(self, code, places, slots, stack):
        """What a piece of a way does, checked beside the machine."""
        piece = self.lifted(code, places)
        told = check_untouched(self, done_at_once, piece, slots, stack)
        self.assertEqual(told, stepped(code, places, slots, stack))
        if told is not None:
            self.assertIsInstance(told, tuple)
            self.assertFalse(mutable_ids(told) & mutable_ids([piece, slots, stack]))
        return told


class TestExample(unittest.TestCase):
    def test_lift_of_the_example_of_folding(self):
        code = [("get", 0), ("push", ("int", 2)), ("op", "*"), ("get", 1), ("op", "+"), ("put", 1), ("return",)]
        piece = lift(code, [0, 1, 2, 3, 4, 5, 6])
        self.assertEqual(piece, ("piece", (0, 6, 6), [], 0, [
            ("slot", 0), ("push", ("int", 2)), ("make", ("op", "*"), [0, 1]), ("slot", 1), ("make", ("op", "+"), [2, 3])],
            [], [], [(1, 4)]))
        self.assertEqual(done_at_once(piece, [("int", 5), ("int", 1)], []), ([("int", 5), ("int", 11)], []))


class TestRuns(unittest.TestCase):
    def check(self, code, wanted):
        self.assertEqual(check_untouched(self, runs, code), wanted)
        self.assertEqual(runs_by_words(code), wanted)

    def test_plain(self):
        get, end = ("get", 0), ("return",)
        self.check([end], [])
        self.check([get, end], [])
        self.check([get, get, end], [(0, 2)])
        self.check([("push", ONE), get, ADD, ("put", 0), ("drop",), ("not",), ("neg",), ("item",), ("size",), ("text of",),
                    ("list", "int", 2), end], [(0, 11)])
        for row in (("jump", 3), ("unless", 3), ("call", "f", 0), ("ask", "now"), ("guard", 6, 0), ("unguard",)):
            self.check([get, get, row, get, get, get, end], [(0, 2), (3, 6)])
            self.check([get, row, get, end], [])
        for row in (("return",), ("fail",)):
            self.check([get, get, row, get, get, end], [(0, 2), (3, 5)])

    def test_code_without_an_end(self):
        # The last place is only where a way ends, as nothing follows it.
        for many, wanted in ((1, []), (2, []), (3, [(0, 2)]), (4, [(0, 3)])):
            self.check([("push", ONE)] * many, wanted)
        self.check([("get", 0), ("jump", 0), ("push", ONE), ("drop",)], [])

    def test_places_to_which_something_leads(self):
        get, end = ("get", 0), ("return",)
        for row in ("jump", "unless", "guard"):
            for place, wanted in ((0, [(0, 5)]), (1, [(1, 5)]), (2, [(0, 2), (2, 5)]), (3, [(0, 3), (3, 5)]), (4, [(0, 4)]),
                                  (5, [(0, 5)])):
                self.check([get] * 5 + [(row, place, 0)[:3 if row == "guard" else 2], end], wanted)

    def test_programs(self):
        seen = 0
        for seed in range(150):
            for code in compile_program(Maker(random.Random(seed)).program()).values():
                self.assertEqual(check_untouched(self, runs, code[4]), runs_by_words(code[4]))
                seen += len(runs(code[4]))
                for first, end in runs(code[4]):
                    self.assertTrue(is_way(code[4], list(range(first, end + 1))))
        self.assertGreater(seen, 300)


class TestWays(unittest.TestCase):
    def check(self, code, places, wanted):
        self.assertIs(check_untouched(self, is_way, code, places), wanted)
        self.assertIs(way_by_words(code, places), wanted)

    def test_ways(self):
        code = [("get", 0), ("unless", 4), ("push", ONE), ("jump", 0), ("get", 0), ("drop",), ("return",)]
        for places in ([0, 1], [0, 1, 2], [0, 1, 4], [0, 1, 2, 3, 0, 1, 4, 5, 6], [3, 0], [1, 4], [5, 6]):
            self.check(code, places, True)
        for places in ([], [0], [6], [0, 2], [1, 3], [1, 0], [3, 4], [6, 7], [5, 6, 7], [0, 1, 3], [-1, 0], [4, 5, 6, 0],
                       [0, 0], [7, 8], [2, 3, 1]):
            self.check(code, places, False)

    def test_instructions_that_no_way_has(self):
        for row in (("call", "f", 0), ("return",), ("ask", "now"), ("ask", "timer"), ("guard", 2, 0), ("unguard",),
                    ("fail",)):
            code = [("get", 0), row, ("get", 0), ("return",)]
            self.check(code, [0, 1], True)
            self.check(code, [1, 2], False)
            self.check(code, [0, 1, 2], False)
        # A failure is no way on.
        self.check([("guard", 4, 0), ("op", "+"), ("drop",), ("return",), ("return",)], [1, 4], False)

    def test_unless_to_the_next_place(self):
        self.check([("get", 0), ("unless", 2), ("return",)], [0, 1, 2], True)

    def test_every_pair_of_places(self):
        for seed in range(20):
            for code in compile_program(Maker(random.Random(seed)).program()).values():
                for one in range(-1, len(code[4]) + 1):
                    for other in range(-1, len(code[4]) + 1):
                        self.assertIs(is_way(code[4], [one, other]), way_by_words(code[4], [one, other]))


class TestPieces(Case):
    def check(self, code, places, takes, nodes, wants, pushes, writes):
        ends = (places[0], places[-1], len(places) - 1)
        self.assertEqual(self.lifted(code, places), ("piece", ends, [], takes, nodes, wants, pushes, writes))

    def straight(self, rows, *told):
        """Checks the piece of instructions one behind the other, not at the beginning of the code."""
        code = [("drop",), *rows, ("return",)]
        self.check(code, list(range(1, len(rows) + 2)), *told)

    def test_pushes_and_slots(self):
        self.straight([("push", ONE), ("push", ONE)], 0, [("push", ONE), ("push", ONE)], [], [0, 1], [])
        self.straight([("get", 3), ("get", 1), ("get", 3)], 0, [("slot", 3), ("slot", 1)], [], [0, 1, 0], [])
        self.straight([("push", ONE), ("put", 2), ("get", 2)], 0, [("push", ONE)], [], [0], [(2, 0)])
        self.straight([("get", 2), ("push", ONE), ("put", 2), ("get", 2)], 0, [("slot", 2), ("push", ONE)], [], [0, 1],
                      [(2, 1)])
        self.straight([("push", ONE), ("put", 2), ("push", TWO), ("put", 2), ("get", 2), ("put", 0)], 0,
                      [("push", ONE), ("push", TWO)], [], [], [(0, 1), (2, 1)])
        self.straight([("get", 0), ("put", 0)], 0, [("slot", 0)], [], [], [(0, 0)])

    def test_values_from_the_stack(self):
        self.straight([("drop",)], 1, [("in", 0)], [], [], [])
        self.straight([("drop",), ("drop",)], 2, [("in", 0), ("in", 1)], [], [], [])
        self.straight([("put", 4), ("put", 1)], 2, [("in", 0), ("in", 1)], [], [], [(1, 1), (4, 0)])
        self.straight([ADD], 2, [("in", 0), ("in", 1), ("make", ADD, [1, 0])], [], [2], [])
        self.straight([("get", 0), ADD], 1, [("slot", 0), ("in", 0), ("make", ADD, [1, 0])], [], [2], [])
        self.straight([("push", ONE), ("list", "int", 3)], 2, [
            ("push", ONE), ("in", 0), ("in", 1), ("make", ("list", "int", 3), [2, 1, 0])], [], [3], [])
        self.straight([("push", ONE), ("drop",), ("drop",)], 1, [("push", ONE), ("in", 0)], [], [], [])

    def test_operations(self):
        for row in (("not",), ("neg",), ("size",), ("text of",)):
            self.straight([row, row], 1, [("in", 0), ("make", row, [0]), ("make", row, [1])], [], [2], [])
        self.straight([("get", 0), ("push", ONE), ("item",)], 0, [
            ("slot", 0), ("push", ONE), ("make", ("item",), [0, 1])], [], [2], [])
        self.straight([("list", "int", 0), ("list", "int", 0)], 0, [
            ("make", ("list", "int", 0), []), ("make", ("list", "int", 0), [])], [], [0, 1], [])

    def test_wants(self):
        code = [("get", 0), ("unless", 3), ("push", ONE), ("push", TWO), ("return",)]
        self.check(code, [0, 1, 2], 0, [("slot", 0)], [(0, True)], [], [])
        self.check(code, [0, 1, 3], 0, [("slot", 0)], [(0, False)], [], [])
        self.check(code, [1, 3, 4], 1, [("in", 0), ("push", TWO)], [(0, False)], [1], [])
        code = [("unless", 1), ("unless", 0), ("jump", 1)]
        self.check(code, [0, 1], 1, [("in", 0)], [], [], [])
        self.check(code, [0, 1, 2, 1, 0], 3, [("in", 0), ("in", 1), ("in", 2)], [(1, True), (2, False)], [], [])
        code = [("get", 0), ("get", 0), ("unless", 0), ("unless", 0), ("return",)]
        self.check(code, [0, 1, 2, 3, 4], 0, [("slot", 0)], [(0, True), (0, True)], [], [])

    def test_jumps(self):
        code = [("push", ONE), ("jump", 3), ("drop",), ("drop",), ("return",)]
        self.check(code, [0, 1, 3, 4], 0, [("push", ONE)], [], [], [])
        self.check(code, [1, 3], 0, [], [], [], [])

    def test_nodes_that_fail(self):
        for row, wanted in (
                (ADD, True), (("op", "-"), True), (("op", "*"), True), (("op", "/"), True), (("op", "&"), True),
                (("op", "="), False), (("op", "!="), False), (("op", "<"), False), (("op", "<="), False), (("not",), False),
                (("neg",), False), (("size",), False), (("text of",), False), (("item",), True), (("list", "int", 1), True)):
            self.assertIs(check_untouched(self, node_fails, ("make", row, [0])), wanted)
            self.assertEqual(may_fail(row), wanted)
        for node in (("push", ONE), ("slot", 0), ("in", 0)):
            self.assertIs(node_fails(node), False)


class TestDone(Case):
    def test_done(self):
        code = [("get", 0), ADD, ("put", 1), ("get", 1), ("return",)]
        self.assertEqual(self.done(code, [0, 1, 2, 3, 4], [TWO, None], [NONE, ONE]), (
            [TWO, ("int", 3)], [NONE, ("int", 3)]))
        self.assertEqual(self.done(code, [0, 1], [TWO, ONE], []), ([TWO, ONE], [TWO]))
        self.assertEqual(self.done(code, [1, 2], [TWO, ONE], [TRUE, ONE, TWO]), ([TWO, ONE], [TRUE, ("int", 3)]))

    def test_giving_way_for_failures(self):
        great = ("int", 10 ** 12)
        for row, stack in ((ADD, [great, ONE]), (("op", "-"), [("int", -10 ** 12), ONE]), (("op", "*"), [great, TWO]),
                           (("op", "/"), [ONE, ("int", 0)]), (("op", "&"), [("text", "a" * 60), ("text", "b")]),
                           (("item",), [("list", (ONE,)), ONE]), (("list", "int", 21), [ONE] * 21)):
            code = [row, ("drop",), ("return",)]
            self.assertIsNone(self.done(code, [0, 1], [], stack))
            self.assertIsNone(self.done(code, [0, 1, 2], [], [NONE, *stack]))
        self.assertIsNotNone(self.done([("list", "int", 20), ("return",)], [0, 1], [], [ONE] * 20))

    def test_giving_way_for_truths(self):
        code = [("get", 0), ("unless", 3), ("push", ONE), ("push", TWO), ("return",)]
        self.assertEqual(self.done(code, [0, 1, 2, 3, 4], [TRUE], []), ([TRUE], [ONE, TWO]))
        self.assertIsNone(self.done(code, [0, 1, 2, 3, 4], [FALSE], []))
        self.assertEqual(self.done(code, [0, 1, 3, 4], [FALSE], []), ([FALSE], [TWO]))
        self.assertIsNone(self.done(code, [0, 1, 3, 4], [TRUE], []))
        code = [("unless", 1), ("push", ONE), ("return",)]
        for truth in (TRUE, FALSE):
            self.assertEqual(self.done(code, [0, 1, 2], [], [truth]), ([], [ONE]))

    def test_giving_way_for_known_slots(self):
        code = [("get", 0), ("push", ONE), ("return",)]
        _, ends, _, takes, nodes, wants, pushes, writes = lift(code, [0, 1, 2])
        for known, slots, wanted in (
                ([(0, TWO)], [TWO, ONE], True), ([(0, TWO)], [ONE, TWO], False), ([(1, TWO)], [ONE, TWO], True),
                ([(0, ONE), (1, TWO)], [ONE, TWO], True), ([(0, ONE), (1, ONE)], [ONE, TWO], False),
                ([(0, TWO)], [None, TWO], False), ([(0, ("text", ""))], [TWO, TWO], False)):
            piece = ("piece", ends, known, takes, nodes, wants, pushes, writes)
            told = check_untouched(self, done_at_once, piece, slots, [])
            self.assertEqual(told, (slots, [slots[0], ONE]) if wanted else None)

    def test_ways_through_random_programs(self):
        seen = {True: 0, False: 0}
        branches = 0
        for seed in range(500):
            rng = random.Random(seed)
            program = Maker(rng).program()
            codes, sorts = compile_program(program), signatures(program)
            paper = verify(codes, sorts)
            for name in sorted(codes):
                code = codes[name][4]
                for start in range(len(code)):
                    if paper[name][start] is None:
                        continue
                    kinds, told, _ = paper[name][start]
                    places = self.random_way(rng, code, start)
                    if not is_way(code, places):
                        continue
                    small = rng.random() < 0.7
                    stack = [random_value(rng, kind, small) for kind in kinds]
                    slots = [rng.choice([None, random_value(rng, rng.choice(KINDS), True)]) if kind is None
                             else random_value(rng, kind, small) for kind in told]
                    seen[self.done(code, places, slots, stack) is not None] += 1
                    branches += any(code[at][0] == "unless" for at in places[:-1])
        self.assertGreater(min(seen.values()), 300)
        self.assertGreater(branches, 500)

    def random_way(self, rng, code, start):
        places = [start]
        for _ in range(rng.randrange(1, 14)):
            after = followers(code, places[-1])
            if not after:
                break
            places.append(rng.choice(after))
        return places

    def test_ways_of_machines(self):
        """From each place of a run on, a piece does what the machine does, and other ways are given up."""
        done = other = 0
        for seed in range(120):
            rng = random.Random(seed)
            program = Maker(rng, asking=False).program()
            codes = compile_program(program)
            name, params = program[0][1:3]
            machine = Machine(codes, name, [random_value(rng, kind, True) for _, kind in params])
            frames = []
            while machine.outcome() is None and machine.steps < 200:
                frames.append((len(machine.frames()), machine.frames()[-1]))
                machine.step()
            for k, (depth, frame) in enumerate(frames):
                code = codes[frame[0]][4]
                for end in range(k + 2, min(k + 12, len(frames))):
                    places = [told[1] for _, told in frames[k:end]]
                    if {told for told, _ in frames[k:end]} != {depth} or not is_way(code, places):
                        break
                    wanted = list(frames[end - 1][1][2]), list(frames[end - 1][1][3])
                    self.assertEqual(self.done(code, places, list(frame[2]), list(frame[3])), wanted)
                    done += 1
                    for place in followers(code, places[-2]):
                        if place != places[-1]:
                            self.assertIsNone(self.done(code, [*places[:-1], place], list(frame[2]), list(frame[3])))
                            other += 1
        self.assertGreater(done, 1000)
        self.assertGreater(other, 50)


class TestText(Case):
    def test_read_program(self):
        program = read_program("fn f(a: int): int { let s = 0; while s < a { set s = s + 2; } return s; }")
        code = compile_program(program)["f"][4]
        self.assertEqual(runs(code), [(0, 2), (2, 5), (6, 10)])
        loop = [2, 3, 4, 5, 6, 7, 8, 9, 10, 2]
        self.assertEqual(self.done(code, loop, [("int", 5), ("int", 2)], []), ([("int", 5), ("int", 4)], []))
        self.assertIsNone(self.done(code, loop, [("int", 5), ("int", 5)], []))
        self.assertEqual(self.done(code, loop * 1 + loop[1:], [("int", 5), ("int", 2)], [])[0][1], ("int", 6))

    def test_answers_do_not_matter(self):
        # What stands around a way, such as requests, is none of its instructions.
        program = read_program("fn f(a: int): int { let b = now; return a + b; }")
        code = compile_program(program)["f"][4]
        self.assertEqual(runs(code), [(1, 5)])
        machine = Machine(compile_program(program), "f", [ONE])
        machine.run(9)
        machine.answer(("ok", TWO))
        frame = machine.frames()[0]
        told = self.done(code, [1, 2, 3, 4, 5], list(frame[2]), list(frame[3]))
        machine.run(4)
        self.assertEqual(told, (list(machine.frames()[0][2]), list(machine.frames()[0][3])))


if __name__ == "__main__":
    unittest.main()
