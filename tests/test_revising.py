import random
import unittest

from flowreprise.checking import check_program
from flowreprise.code import may_fail
from flowreprise.compiling import compile_program, signatures
from flowreprise.errors import CheckError
from flowreprise.machine import Machine, resumed
from flowreprise.revising import carried, match_right, matched
from flowreprise.trees import read_program
from flowreprise.verifying import verify
from tests.helper import Maker, answers_of, changed, check_untouched, mutable_ids, random_value, spots

SLOTTED = {"get": 1, "put": 1, "guard": 2}


def compiled(old, fresh):
    """The codes and the signatures of two programs."""
    return compile_program(old), compile_program(fresh), (signatures(old), signatures(fresh))


def read_both(old, fresh):
    return compiled(read_program(old), read_program(fresh))


def state_places(states):
    return [at for at, state in enumerate(states) if state is not None]


def ways_at(rows, states, at):
    """The ways from a place, by the words of point 56."""
    word = rows[at][0]
    if states[at] is None:
        return []
    found = []
    if word not in ("jump", "return", "fail"):
        found.append(("next", at + 1))
    if word in ("jump", "unless"):
        found.append(("jump", rows[at][1]))
    if may_fail(rows[at]) and states[at][2]:
        found.append(("fail", states[at][2][-1][0]))
    return found


def same(one, other, slots):
    if one[0] != other[0]:
        return False
    if one[0] in ("jump", "unless"):
        return True
    if one[0] in SLOTTED:
        at = SLOTTED[one[0]]
        return one[at] in slots and slots[one[at]] == other[at]
    return one == other


class Right:
    """Whether a match is right, by the words of point 58."""

    def __init__(self, old, fresh, sorts, paper):
        self.old, self.fresh, self.sorts, self.paper = old, fresh, sorts, paper
        self.states = verify(old, sorts[0])

    def told(self):
        for name in self.paper:
            if name not in self.old or name not in self.fresh or self.sorts[0][name] != self.sorts[1][name]:
                return False
        return all(self.formed(name) for name in self.paper) and all(self.led(name) for name in self.paper)

    def formed(self, name):
        places, slots = self.paper[name]
        rows, new = self.old[name], self.fresh[name]
        if any(at not in state_places(self.states[name]) for at in places) or 0 not in places or places[0] != 0:
            return False
        if any(place not in range(len(new[4])) for place in places.values()):
            return False
        if any(slot not in range(rows[3]) for slot in slots) or any(slot not in range(new[3]) for slot in slots.values()):
            return False
        if len(set(slots.values())) < len(slots) or any(slots.get(slot) != slot for slot in range(rows[2])):
            return False
        return all(len(goals) == 1 for goals in self.guards(name).values())

    def is_same(self, name, at):
        places, slots = self.paper[name]
        return at in places and same(self.old[name][4][at], self.fresh[name][4][places[at]], slots)

    def guards(self, name):
        """The new places of each place of a guard."""
        found = {}
        for at, place in self.paper[name][0].items():
            if self.old[name][4][at][0] == "guard" and self.is_same(name, at):
                found.setdefault(self.old[name][4][at][1], set()).add(self.fresh[name][4][place][1])
        return found

    def whole(self, name):
        return name in self.paper and all(self.is_same(name, at) for at in state_places(self.states[name]))

    def led(self, name):
        places = self.paper[name][0]
        rows, new = self.old[name][4], self.fresh[name][4]
        for at in range(len(rows)):
            for how, place in ways_at(rows, self.states[name], at):
                if place not in places:
                    continue
                if not self.is_same(name, at) or rows[at][0] == "call" and not self.whole(rows[at][1]):
                    return False
                wanted = {"next": {places[at] + 1}, "jump": set(new[places[at]][1:2]),
                          "fail": self.guards(name).get(place, set())}[how]
                if places[place] not in wanted:
                    return False
        return True


def found_match(old, fresh, sorts):
    """The match of point 60, told otherwise than in the package."""
    states = verify(old, sorts[0])
    paper = {}
    for name in old:
        if sorts[0][name] != sorts[1].get(name):
            continue
        rows, new = old[name][4], fresh[name][4]
        places, slots, goals, out, due = {0: 0}, {k: k for k in range(old[name][2])}, {}, set(), {0}
        while due:
            at = min(due)
            due.remove(at)
            one, other = rows[at], new[places[at]]
            if one[0] == other[0] and one[0] in SLOTTED:
                mine, yours = one[SLOTTED[one[0]]], other[SLOTTED[one[0]]]
                if mine not in slots and yours not in slots.values():
                    slots[mine] = yours
            if not same(one, other, slots):
                continue
            if one[0] == "guard":
                if goals.get(one[1], other[1]) != other[1]:
                    out.add(at)
                    continue
                goals[one[1]] = other[1]
            for how, place in ways_at(rows, states[name], at):
                led = {"next": places[at] + 1, "jump": other[-1], "fail": goals.get(place)}[how]
                if place not in places:
                    places[place] = led
                    due.add(place)
                elif places[place] != led:
                    out.add(place)
        paper[name] = ({at: places[at] for at in places if at not in out}, slots)
    paper = {name: paper[name] for name in paper if 0 in paper[name][0]}
    while True:
        right = Right(old, fresh, sorts, paper)
        gone = [(name, place) for name in paper for at in range(len(old[name][4]))
                for _, place in ways_at(old[name][4], states[name], at) if place in paper[name][0] and (
                    not right.is_same(name, at) or old[name][4][at][0] == "call" and not right.whole(old[name][4][at][1]))]
        if not gone:
            return paper
        paper = {name: ({at: place for at, place in places.items() if (name, at) not in gone}, slots)
                 for name, (places, slots) in paper.items()}
        paper = {name: paper[name] for name in paper if 0 in paper[name][0]}


class Case(unittest.TestCase):
    def match(self, old, fresh, sorts):
        """The match that is found, checked by the words of the points."""
        paper = check_untouched(self, matched, old, fresh, sorts)
        self.assertEqual(paper, found_match(old, fresh, sorts))
        self.assertTrue(Right(old, fresh, sorts, paper).told())
        self.assertIs(check_untouched(self, match_right, old, fresh, sorts, paper), True)
        return paper

    def match_of(self, old, fresh):
        return self.match(*read_both(old, fresh))


class TestExample(unittest.TestCase):
    def test_example(self):
        ask = ("let", "a", ("await", "signal", "go", "int"))
        old = [("fn", "flow", [], "int", [ask, ("return", ("var", "a"))])]
        fresh = [("fn", "flow", [], "int", [ask, ("return", ("op", "+", ("var", "a"), ("int", 1)))])]
        codes, sorts = (compile_program(old), compile_program(fresh)), (signatures(old), signatures(fresh))
        machine = Machine(codes[0], "flow", [])
        self.assertEqual(machine.run(9), ("waits", ("signal", "go", "int")))
        other = resumed(
            codes[1], carried(codes[0], codes[1], sorts, matched(codes[0], codes[1], sorts), machine.saved()))
        other.answer(("ok", ("int", 4)))
        self.assertEqual(other.run(9), ("done", ("int", 5)))


FIVE = """
    fn f(n: int): int { let a = 1; set a = g(a); try { set a = a + n; } catch c { return c; } return a; }
    fn g(n: int): int { if n < 2 { return await act pay(n): int; } return n * 2; }"""


def lines_of(places):
    return {at: at for at in places}


class TestMatching(Case):
    def test_beside_itself(self):
        codes, _, sorts = read_both(FIVE, FIVE)
        paper = self.match(codes, codes, sorts)
        states = verify(codes, sorts[0])
        for name in ("f", "g"):
            self.assertEqual(paper[name], (
                lines_of(state_places(states[name])), {slot: slot for slot in range(codes[name][3])}))
        for seed in range(60):
            program = Maker(random.Random(seed)).program()
            codes, sorts = compile_program(program), (signatures(program), signatures(program))
            paper = self.match(codes, codes, sorts)
            states = verify(codes, sorts[0])
            self.assertEqual({name: places for name, (places, _) in paper.items()}, {
                name: lines_of(state_places(states[name])) for name in codes})

    def test_statement_put_in_at_each_place(self):
        rows = ["let a = 1;", "do a;", "let b = now;", "do b;"]
        old = "fn f(): int {{ {} return a; }}"
        for k in range(len(rows) + 1):
            fresh = [*rows[:k], "do 77;", *rows[k:]]
            paper = self.match_of(old.format(" ".join(rows)), old.format(" ".join(fresh)))
            # The first instruction of another statement is the first that is not the same.
            wanted = 2 * k
            slots = {0: 0, 1: 1} if k == 4 else {0: 0} if k else {}
            slots = {0: 0, 1: 1} if k in (3, 4) else slots
            if k == 0:
                self.assertEqual(paper, {"f": ({0: 0}, {})})
            elif k in (1, 2, 3, 4):
                self.assertEqual(paper["f"], (lines_of(range(wanted + 1)), slots))

    def test_statements_left_out_and_turned(self):
        old = "fn f(n: int): int { let a = 1; let b = 2; do now; return n; }"
        for fresh, places, slots in (
                ("let a = 1; do now; return n;", 3, {0: 0, 1: 1}), ("let b = 2; do now; return n;", 1, {0: 0}),
                ("do now; return n;", 1, {0: 0}), ("let b = 2; let a = 1; do now; return n;", 1, {0: 0}),
                ("let b = 1; let a = 2; do now; return n;", 9, {0: 0, 1: 1, 2: 2}),
                ("let a = 1; let b = 2; return n;", 5, {0: 0, 1: 1, 2: 2}),
                ("let a = 1; let b = 2; do now; return 1;", 7, {0: 0, 1: 1, 2: 2}),
                ("let a = 1; do now; let b = 2; return n;", 3, {0: 0, 1: 1})):
            paper = self.match_of(old, "fn f(n: int): int { %s }" % fresh)
            if fresh.startswith("let b = 1"):
                places = 8
            self.assertEqual(paper["f"], (lines_of(range(places)), slots), fresh)

    def test_slots_that_have_moved(self):
        # A slot more in front, which the new code puts behind the others.
        old = "fn f(): int { if now < 1 { let a = 1; } let b = 2; do now; return b; }"
        fresh = "fn f(): int { if now < 1 { do 1; } let b = 2; do now; return b; }"
        paper = self.match_of(old, fresh)
        self.assertEqual(paper["f"][0], lines_of([0, 1, 2, 3, 4, 5]))
        old = "fn f(): int { let b = 2; do now; return b; }"
        fresh = "fn f(): int { let c = 2; do now; let d = 5; return c; }"
        self.assertEqual(self.match_of(old, fresh)["f"], (lines_of(range(5)), {0: 0}))

    def test_slots_that_belong_to_others(self):
        # The second slot that is put does not belong to the first one, which has another one.
        old = "fn f(): int { let a = 1; let b = 2; return a; }"
        fresh = "fn f(): int { let a = 1; set a = 2; return a; }"
        self.assertEqual(self.match_of(old, fresh)["f"], (lines_of(range(4)), {0: 0}))
        self.assertEqual(self.match_of(fresh, old)["f"], (lines_of(range(4)), {0: 0}))
        old, fresh = old.replace("return a", "return 5"), fresh.replace("return a", "return 5")
        self.assertEqual(self.match_of(old, fresh)["f"], (lines_of(range(4)), {0: 0}))
        self.assertEqual(self.match_of(fresh, old)["f"], (lines_of(range(4)), {0: 0}))
        # A parameter belongs to itself, and to no other slot.
        old = "fn f(a: int, b: int): int { set a = 1; return b; }"
        fresh = "fn f(a: int, b: int): int { set b = 1; return a; }"
        self.assertEqual(self.match_of(old, fresh)["f"], (lines_of(range(2)), {0: 0, 1: 1}))
        # "get" and "put" do not make slots belong to each other.
        old = "fn f(a: int): int { let b = a; return b; }"
        fresh = "fn f(a: int): int { do a; let b = a; return b; }"
        self.assertEqual(self.match_of(old, fresh)["f"], (lines_of(range(2)), {0: 0}))

    def test_functions_of_both(self):
        old = "fn f(): int { return 1; } fn g(a: int): int { return 1; } fn h(): int { return 1; } fn k(): int { return 1; }"
        fresh = "fn m(): int { return 1; } fn g(a: text): int { return 1; } fn h(): text { return \"\"; } " \
                "fn k(): int { return 2; }"
        self.assertEqual(self.match_of(old, fresh), {"k": ({0: 0}, {})})
        for name in "fghkmz":
            paper = {name: ({0: 0}, {0: 0} if name == "g" else {})}
            told = check_untouched(self, match_right, *read_both(old, fresh), paper)
            self.assertIs(told, name == "k")
        self.assertEqual(self.match_of("fn f(): int { return 1; }", "fn g(): int { return 1; }"), {})

    def test_ways_of_tests(self):
        old = "fn f(a: int): int { if a < 1 { do 1; } else { do 2; } do now; return a; }"
        fresh = "fn f(a: int): int { if a < 1 { do 1; } else { do 3; } do now; return a; }"
        # One of the two bodies is not the same, so nothing behind both of them is in the match.
        self.assertEqual(self.match_of(old, fresh)["f"][0], lines_of([0, 1, 2, 3, 4, 5, 6, 7]))
        fresh = "fn f(a: int): int { if a < 1 { do 1; } else { return 2; } do now; return a; }"
        self.assertEqual(self.match_of(old, fresh)["f"][0], lines_of([0, 1, 2, 3, 4, 5, 6, 7, 8]))
        # The places may be others, if each way leads there in the same way.
        old = "fn f(a: int): int { if a < 1 { return 1; } else { do 2; } do now; return a; }"
        fresh = "fn f(a: int): int { if a < 1 { return 1 + 1; } else { do 2; } do now; return a; }"
        paper = self.match_of(old, fresh)["f"][0]
        self.assertEqual(paper, {**lines_of([0, 1, 2, 3, 4, 5]), 7: 9, 8: 10, 9: 11, 10: 12, 11: 13, 12: 14})

    def test_loops(self):
        old = "fn f(a: int): int { do 5; while a < 9 { set a = a + 1; } return a; }"
        self.assertEqual(self.match_of(old, old.replace("return a", "return 1"))["f"][0], lines_of(range(12)))
        paper = self.match_of(old, old.replace("a + 1", "a + 2"))["f"][0]
        # The way back to the test is none of the new code that is reached by the same instructions.
        self.assertEqual(paper, lines_of([0, 1]))
        # With a loop at the beginning, the function is left out.
        old = old.replace("do 5; ", "")
        self.assertEqual(self.match_of(old, old.replace("a + 1", "a + 2")), {})
        self.assertEqual(self.match_of(old, old.replace("return a", "return 1"))["f"][0], lines_of(range(10)))

    def test_loops_whose_place_moves(self):
        old = "fn f(a: int): int { while a < 9 { do 1; } return a; }"
        fresh = "fn f(a: int): int { do a; while a < 9 { do 1; } return a; }"
        # What leads back to the beginning is not the same.
        self.assertEqual(self.match_of(old, fresh), {})
        self.assertEqual(self.match_of(fresh, old)["f"][0], lines_of([0, 1]))
        fresh = "fn f(a: int): int { if a < 9 { do 1; } while a < 9 { do 1; } return a; }"
        # The way back would make the beginning belong to a second place.
        self.assertEqual(self.match_of(old, fresh), {})

    def test_calls_of_functions_that_are_not_whole(self):
        old = "fn f(a: int): int { do g(a); do now; return a; } fn g(a: int): int { do 1; return a; }"
        fresh = old.replace("do 1;", "do 2;")
        paper = self.match_of(old, fresh)
        self.assertEqual(paper["f"][0], lines_of([0, 1]))
        self.assertEqual(paper["g"][0], lines_of([0]))
        self.assertEqual(self.match_of(old, old.replace("return a; } fn", "return 1; } fn"))["f"][0], lines_of(range(6)))
        # What is called in a ring is whole only if all of it is.
        ring = "fn f(a: int): int { do g(a); return a; } fn g(a: int): int { do f(a); return %s; }"
        paper = self.match_of(ring % "1", ring % "2")
        self.assertEqual((paper["f"][0], paper["g"][0]), (lines_of([0, 1]), lines_of([0, 1])))
        paper = self.match_of(ring % "1", ring % "1")
        self.assertEqual((len(paper["f"][0]), len(paper["g"][0])), (5, 5))
        # A failure out of a call is one of its ways.
        old = "fn f(a: int): int { try { do g(a); } catch c { do c; } return a; } fn g(a: int): int { return 1 / a; }"
        paper = self.match_of(old, old.replace("1 / a", "2 / a"))
        self.assertEqual(paper["f"][0], lines_of([0, 1, 2]))

    def test_guards(self):
        old = "fn f(a: int): int { try { do a / a; } catch c { do 1; } return a; }"
        fresh = "fn f(a: int): int { try { do a / a; do 5; } catch c { do 1; } return a; }"
        # The second body has moved, and is reached by the failures before what was put in.
        paper = self.match_of(old, fresh)["f"]
        self.assertEqual(paper, ({0: 0, 1: 1, 2: 2, 3: 3, 4: 4, 5: 5, 7: 9, 8: 10}, {0: 0, 1: 1}))
        fresh = "fn f(a: int): int { try { do a / a; do a / a; } catch c { do 1; } return a; }"
        self.assertEqual(self.match_of(fresh, old)["f"][0], {
            0: 0, 1: 1, 2: 2, 3: 3, 4: 4, 5: 5})
        # A failure before the "try" that was put in leads nowhere.
        fresh = "fn f(a: int): int { do a; try { do a / a; } catch c { do 1; } return a; }"
        self.assertEqual(self.match_of(old, fresh)["f"], (lines_of([0]), {0: 0}))

    def test_guards_to_one_place(self):
        # Two guards with one old place: the second one leads elsewhere in the new code.
        rows = [("get", 0), ("unless", 6), ("guard", 12, 1), ("push", ("int", 1)), ("put", 2), ("jump", 9),
                ("guard", 12, 1), ("push", ("int", 2)), ("put", 3), ("unguard",), ("ask", "now"), ("return",),
                ("push", ("int", 3)), ("return",)]
        old = {"f": ("code", "f", 1, 4, rows)}
        sorts = {"f": (["bool"], "int")}
        self.assertEqual(self.match(old, old, (sorts, sorts))["f"][0], lines_of(range(12)))
        for at in (2, 6):
            other = rows + [("push", ("int", 3)), ("return",)]
            other[at] = ("guard", 14, 1)
            fresh = {"f": ("code", "f", 1, 4, other)}
            told = self.match(old, fresh, (sorts, sorts))["f"]
            self.assertEqual(told, (lines_of(range(6)), {0: 0, 1: 1, 2: 2}))
            # No failure tells the guards apart, but both of them have one old place.
            paper = {"f": (lines_of(range(12)), {slot: slot for slot in range(4)})}
            self.assertIs(match_right(old, fresh, (sorts, sorts), paper), False)
            self.assertIs(match_right(old, old, (sorts, sorts), paper), True)
            self.assertFalse(Right(old, fresh, (sorts, sorts), paper).told())


def random_change(rng, program):
    """A program with some statements put in, left out or turned, which may be checked or not."""
    fresh = list(program)
    for _ in range(rng.choice([1, 1, 1, 2])):
        at = rng.randrange(len(fresh))
        _, name, params, kind, body = fresh[at]
        rows = [path for word, path in spots(body) if word == "row"]
        trees = [path for word, path in spots(body) if word == "tree"]
        way = rng.randrange(5) if rows else 4
        put = rng.choice([("do", ("int", 7)), ("do", ("now",)), ("let", "zz", ("int", 3)),
                          ("try", [("do", ("now",))], "zy", []), ("fail", ("int", 300))])
        if way == 0:
            body = changed(body, rng.choice(rows), lambda row: [])
        elif way == 1:
            body = changed(body, rng.choice(rows), lambda row: [put, row])
        elif way == 2:
            body = changed(body, rng.choice(rows), lambda row: [row, put])
        elif way == 3 and len(body) > 1:
            k = rng.randrange(len(body) - 1)
            body = body[:k] + [body[k + 1], body[k]] + body[k + 2:]
        elif trees:
            body = changed(body, rng.choice(trees), lambda tree: [("int", 8)])
        fresh[at] = ("fn", name, params, kind, body)
    return fresh


def random_pair(rng, seed):
    """A program and another one, both checked, and not the same."""
    program = Maker(rng, loops=seed % 2 == 0, rings=seed % 3 > 0).program()
    for _ in range(20):
        fresh = random_change(rng, program)
        try:
            check_program(fresh)
        except CheckError:
            continue
        return program, fresh
    return program, program


def other_paper(rng, paper):
    """A match with something otherwise, more or less."""
    paper = {name: (dict(places), dict(slots)) for name, (places, slots) in paper.items()}
    if not paper or rng.random() < 0.05:
        paper[rng.choice(["zz", "fd"])] = ({0: 0}, {})
        return paper
    name = rng.choice(sorted(paper))
    way = rng.randrange(7)
    places, slots = paper[name]
    if way == 0:
        del paper[name]
    elif way == 1 and places:
        del places[rng.choice(sorted(places))]
    elif way == 2:
        places[rng.choice([max(places, default=0) + 1, rng.randrange(-2, 30)])] = rng.randrange(-1, 30)
    elif way == 3 and places:
        places[rng.choice(sorted(places))] += rng.choice([-1, 1])
    elif way == 4 and slots:
        del slots[rng.choice(sorted(slots))]
    elif way == 5 and slots:
        slots[rng.choice(sorted(slots))] += rng.choice([-1, 1])
    else:
        slots[rng.randrange(-1, 6)] = rng.randrange(-1, 6)
    return paper


class TestRandom(Case):
    def test_matches(self):
        partly = 0
        for seed in range(400):
            rng = random.Random(seed)
            old, fresh, sorts = compiled(*random_pair(rng, seed))
            paper = self.match(old, fresh, sorts)
            partly += any(1 < len(places) < len(old[name][4]) - 2 for name, (places, _) in paper.items())
            for _ in range(12):
                other = other_paper(rng, paper)
                wanted = Right(old, fresh, sorts, other).told()
                self.assertIs(check_untouched(self, match_right, old, fresh, sorts, other), wanted)
        self.assertGreater(partly, 150)

    def test_smaller_matches_may_be_right(self):
        right = wrong = 0
        for seed in range(200):
            rng = random.Random(seed)
            old, fresh, sorts = compiled(*random_pair(rng, seed))
            paper = matched(old, fresh, sorts)
            for _ in range(8):
                other = {}
                for name, (places, slots) in paper.items():
                    end = rng.choice([10 ** 6, rng.randrange(1, 20)])
                    other[name] = ({at: places[at] for at in places if at < end}, dict(slots))
                wanted = Right(old, fresh, sorts, other).told()
                self.assertIs(match_right(old, fresh, sorts, other), wanted)
                right += wanted
                wrong += not wanted
        self.assertGreater(right, 300)
        self.assertGreater(wrong, 100)


class TestCarried(Case):
    def carry(self, old, fresh, sorts, paper, machine):
        saved = machine.saved()
        told = check_untouched(self, carried, old, fresh, sorts, paper, saved)
        self.assertEqual(saved, machine.saved())
        self.assertEqual(mutable_ids(told), set())
        self.assertEqual(told is not None, self.may_be_carried(old, fresh, sorts, paper, machine))
        return told

    def may_be_carried(self, old, fresh, sorts, paper, machine):
        """Whether a machine may be carried over, by the words of point 59."""
        right = Right(old, fresh, sorts, paper)
        frames = machine.frames()
        if not frames:
            return False
        for k, (name, at, _, _, _) in enumerate(frames):
            if name not in paper:
                return False
            if k < len(frames) - 1 or machine.asked is not None:
                if not right.is_same(name, at - 1):
                    return False
            elif at not in paper[name][0]:
                return False
        return True

    def test_at_the_beginning(self):
        old, fresh, sorts = read_both(FIVE, FIVE.replace("let a = 1", "let a = 2"))
        paper = matched(old, fresh, sorts)
        machine = Machine(old, "f", [("int", 5)])
        told = self.carry(old, fresh, sorts, paper, machine)
        self.assertEqual(told, Machine(fresh, "f", [("int", 5)]).saved())
        self.assertEqual(resumed(fresh, told).run(5), ("tired",))
        machine.step()
        self.assertIsNone(self.carry(old, fresh, sorts, paper, machine))
        self.assertIsNone(self.carry(old, fresh, sorts, {}, Machine(old, "f", [("int", 5)])))

    def test_each_step(self):
        fresh_text = FIVE.replace("return c; }", "return 1000 + c; }").replace("return a; }", "do now; return a; }")
        old, fresh, sorts = read_both(FIVE, fresh_text)
        paper = matched(old, fresh, sorts)
        told = []
        for steps in range(30):
            machine, other = Machine(old, "f", [("int", 5)]), Machine(fresh, "f", [("int", 5)])
            for one in (machine, other):
                if one.run(steps)[0] == "waits":
                    one.answer(("ok", ("int", 8)))
                    one.run(steps - one.steps)
            moved = self.carry(old, fresh, sorts, paper, machine)
            told.append(moved is not None)
            if moved is not None:
                self.assertEqual(moved, other.saved())
                self.assertEqual(resumed(fresh, moved).frames(), other.frames())
        self.assertEqual(told, [True] * 20 + [False] * 10)

    def test_while_it_waits_inside_of_calls_and_of_try(self):
        old_text = """
            fn f(n: int): int { let x = 0; try { set x = g(n); } catch c { return c; } return x; }
            fn g(n: int): int { return 1 + h(n); }
            fn h(n: int): int { let a = await act pay(n): int; return a / n; }"""
        fresh_text = """
            fn g(n: int): int { return 1 + h(n); }
            fn h(n: int): int { let a = await act pay(n): int; let b = now; return a / n + b; }
            fn f(n: int): int { let x = 0; try { set x = g(n); do now; } catch c { return c + 1; } return x + 1; }"""
        old, fresh, sorts = read_both(old_text, fresh_text)
        paper = self.match(old, fresh, sorts)
        machine, other = Machine(old, "f", [("int", 0)]), Machine(fresh, "f", [("int", 0)])
        for one in (machine, other):
            one.run(50)
        told = self.carry(old, fresh, sorts, paper, machine)
        self.assertEqual(told, other.saved())
        moved = resumed(fresh, told)
        self.assertEqual(moved.frames()[0][4], ((10, 2, 0),))
        self.assertEqual(machine.frames()[0][4], ((8, 2, 0),))
        moved.answer(("failed", 300))
        self.assertEqual(moved.run(50), ("done", ("int", 301)))
        machine.answer(("failed", 300))
        self.assertEqual(machine.run(50), ("done", ("int", 300)))
        self.assertIsNone(self.carry(old, fresh, sorts, paper, machine))

    def test_that_cannot_be_carried(self):
        # The request is another one, so the machine that waits for it stays with the old program.
        text = "fn f(n: int): int { let a = await act pay(n): int; return a; }"
        for change, may in ((("pay", "send"), False), (("return a", "return 1"), True), (("(n)", "(1)"), False),
                            (("n): int; return a", "n): text; return n"), False), (("let a", "let b"), True)):
            fresh_text = text.replace(*change).replace("return a", "return b" if change[1] == "let b" else "return a")
            old, fresh, sorts = read_both(text, fresh_text)
            machine = Machine(old, "f", [("int", 5)])
            machine.run(9)
            told = self.carry(old, fresh, sorts, self.match(old, fresh, sorts), machine)
            self.assertEqual(told is not None, may, change)
        # The function is in both, with another signature.
        old, fresh, sorts = read_both(text, "fn f(n: text): int { let a = await act pay(n): int; return a; }")
        self.assertIsNone(self.carry(old, fresh, sorts, self.match(old, fresh, sorts), Machine(old, "f", [("int", 1)])))
        # The frame that waits for a call is behind it, in a place that need not be in the match.
        text = "fn f(n: int): int { let a = g(n); return a; } fn g(n: int): int { let b = now; return b; }"
        old, fresh, sorts = read_both(text, text.replace("return b", "return n"))
        machine = Machine(old, "f", [("int", 5)])
        machine.run(9)
        paper = self.match(old, fresh, sorts)
        self.assertEqual(sorted(paper["f"][0]), [0, 1])
        self.assertIsNotNone(self.carry(old, fresh, sorts, paper, machine))
        machine.answer(("ok", ("int", 1)))
        machine.run(2)
        self.assertIsNone(self.carry(old, fresh, sorts, paper, machine))

    def test_waiting_in_front_of_a_place_that_is_left_out(self):
        # The other way to the place behind the request is not the same, but this one is.
        rows = [("get", 0), ("unless", 4), ("push", ("int", 1)), ("jump", 5), ("ask", "now"), ("return",)]
        old, fresh = ({"f": ("code", "f", 1, 1, rows[:2] + [("push", ("int", n))] + rows[3:])} for n in (1, 2))
        sorts = {"f": (["bool"], "int")}
        paper = self.match(old, fresh, (sorts, sorts))
        self.assertEqual(paper, {"f": (lines_of([0, 1, 2, 4]), {0: 0})})
        machine, other = Machine(old, "f", [("bool", False)]), Machine(fresh, "f", [("bool", False)])
        self.assertEqual(machine.run(9), other.run(9))
        self.assertEqual(self.carry(old, fresh, (sorts, sorts), paper, machine), other.saved())
        machine.answer(("ok", ("int", 1)))
        self.assertIsNone(self.carry(old, fresh, (sorts, sorts), paper, machine))

    def test_slots(self):
        # The slot of a name that is let in a body that has gone belongs to none.
        old, fresh, sorts = read_both(
            "fn f(n: int): int { if n < 1 { let a = 1; } else { let b = 2; } return now; }",
            "fn f(n: int): int { if n < 1 { do 1; } else { let b = 2; do now; } return now; }")
        paper = self.match(old, fresh, sorts)
        for n, steps in ((5, 4), (5, 5), (0, 5), (0, 4)):
            machine, other = Machine(old, "f", [("int", n)]), Machine(fresh, "f", [("int", n)])
            machine.run(steps)
            other.run(steps)
            told = self.carry(old, fresh, sorts, paper, machine)
            self.assertEqual(told, other.saved())
        self.assertEqual(paper["f"][1], {0: 0, 2: 1})

    def test_random_machines(self):
        moved = stayed = deep = 0
        for seed in range(400):
            rng = random.Random(seed)
            program, other_program = random_pair(rng, seed)
            old, fresh, sorts = compiled(program, other_program)
            paper = matched(old, fresh, sorts)
            name, params = program[0][1:3]
            values = [random_value(rng, kind, True) for _, kind in params]
            machine = Machine(old, name, values)
            given, answers = [], answers_of(seed, program, 9)
            for _ in range(120):
                told = self.carry(old, fresh, sorts, paper, machine)
                moved += told is not None
                stayed += told is None
                deep += told is not None and len(machine.frames()) > 1
                if told is not None:
                    other, left = Machine(fresh, name, values), list(given)
                    while other.run(machine.steps - other.steps)[0] == "waits" and left:
                        other.answer(left.pop(0))
                    self.assertEqual(left, [])
                    self.assertEqual(told, other.saved())
                    self.assertEqual(resumed(fresh, told).frames(), other.frames())
                if machine.asked is not None:
                    answer = answers(machine.asked)
                    if answer is None:
                        break
                    given.append(answer)
                    machine.answer(answer)
                elif machine.outcome() is None:
                    machine.step()
                else:
                    break
        self.assertGreater(moved, 2000)
        self.assertGreater(stayed, 1000)
        self.assertGreater(deep, 100)


if __name__ == "__main__":
    unittest.main()
