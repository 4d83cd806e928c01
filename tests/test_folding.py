import random
import unittest

from flowreprise.compiling import compile_program, signatures
from flowreprise.folding import fold, folded_right
from flowreprise.lifting import done_at_once, is_way, lift, runs
from flowreprise.trees import read_program
from flowreprise.verifying import verify
from tests.helper import KINDS, Failure, Maker, check_untouched, random_value, worked_out
from tests.test_lifting import followers, stepped

ZERO, ONE, TWO, FIVE = ("int", 0), ("int", 1), ("int", 2), ("int", 5)
TRUE, FALSE, NONE, WORD = ("bool", True), ("bool", False), ("nothing",), ("text", "ab")
ADD, LESS, SAME, JOIN = ("op", "+"), ("op", "<"), ("op", "="), ("op", "&")
GONE = ("gone", None)


def kind_of_items(values):
    """The type of the items of a list of values as a text with ? for what is open, or None if they have none."""
    kind = "?"
    for value in values:
        other = kind_told(value)
        if other is None:
            return None
        # The longer text that agrees with the other one up to its ? is what is known by both.
        short, long = sorted([kind, other], key=lambda text: (text.count("["), "?" not in text))
        if not (short.endswith("?") and long.startswith(short[:-1]) or short == long):
            return None
        kind = long
    return kind


def kind_told(value):
    if value[0] != "list":
        return value[0]
    inner = kind_of_items(value[1])
    return None if inner is None else "[" + inner


def has_types(row, values):
    """Whether an instruction of code may take values, by the words of points 20 and 43."""
    words = [value[0] for value in values]
    if row[0] == "list":
        kind, opened = row[1], ""
        while isinstance(kind, tuple):
            kind, opened = kind[1], opened + "["
        whole = ("list", (*values,))
        told = kind_told(whole)
        return told is not None and (told == "[" + opened + kind or told.endswith("?") and (
            "[" + opened + kind).startswith(told[:-1]))
    if row[0] == "op":
        sign = row[1]
        if sign in "+-*/":
            return words == ["int", "int"]
        if kind_of_items(values) is None:
            return False
        return words[0] in {"&": ("text", "list"), "<": ("int", "text"), "<=": ("int", "text")}.get(sign, words[0])
    wanted = {"not": ["bool"], "neg": ["int"], "size": ["text", "list"], "text of": ["int", "bool"], "item": ["list"]}
    return words[0] in wanted[row[0]] and words[1:] == ["int"] * (row[0] == "item")


def result_of(row, values):
    """The value that an instruction makes of values, or None."""
    if not has_types(row, values):
        return None
    if row[0] == "list":
        deep = max([0] + [show.count("[") for show in [kind_told(value) for value in values]])
        return ("list", tuple(values)) if len(values) <= 20 and deep < 6 else None
    try:
        return worked_out(row[0], row[1] if row[0] == "op" else None, list(values))
    except Failure:
        return None


def may_fail(node):
    return node[0] == "make" and (node[1][0] in ("list", "item") or node[1][0] == "op" and node[1][1] in "+-*/&")


def right_by_words(piece, folded, paper):
    """Whether a paper is right, line by line of point 52."""
    _, ends, known, takes, nodes, wants, pushes, writes = piece
    _, other_ends, facts, other_takes, others, other_wants, other_pushes, other_writes = folded
    if len(paper) != len(nodes) or ends != other_ends or takes != other_takes:
        return False
    if len({slot for slot, _ in facts}) < len(facts) or [row for row in known if row not in facts]:
        return False
    for k, node in enumerate(others):
        if node[0] == "in" and node[1] not in range(takes) or node[0] == "make" and set(node[2]) - set(range(k)):
            return False

    def is_told(row, at):
        if row[0] == "value":
            return at in range(len(others)) and others[at] == ("push", row[1])
        return row[0] == "node" and row[1] == at

    def row_right(node, row):
        if row[0] == "value":
            if node[0] == "make":
                parts = [paper[part] for part in node[2]]
                return all(part[0] == "value" for part in parts) and row[1] is not None and result_of(
                    node[1], [part[1] for part in parts]) == row[1]
            return node == ("push", row[1]) or node[0] == "slot" and (node[1], row[1]) in facts
        if row[0] == "node":
            if row[1] not in range(len(others)):
                return False
            other = others[row[1]]
            if node[0] != "make":
                return node == other
            return other[0] == "make" and other[1] == node[1] and len(other[2]) == len(node[2]) and all(
                is_told(paper[part], at) for part, at in zip(node[2], other[2]))
        return row == GONE and not may_fail(node)

    for node, row in zip(nodes, paper):
        if not row_right(node, row):
            return False
    if len(pushes) != len(other_pushes) or [slot for slot, _ in writes] != [slot for slot, _ in other_writes]:
        return False
    results = [*pushes, *[node for _, node in writes]]
    if not all(is_told(paper[node], at) for node, at in zip(results, [*other_pushes, *[at for _, at in other_writes]])):
        return False
    left = [(paper[node][1], truth) for node, truth in wants if paper[node][0] == "node"]
    fixed = [paper[node] == ("value", ("bool", truth)) for node, truth in wants if paper[node][0] != "node"]
    if not all(fixed) or left != other_wants:
        return False
    return all(("node", k) in paper for k, other in enumerate(others) if may_fail(other))


def values_by_words(piece, facts):
    """The values of the nodes that are known, None for others."""
    told = dict(facts)
    worth = []
    for node in piece[4]:
        if node[0] == "make":
            parts = [worth[part] for part in node[2]]
            worth.append(None if None in parts else result_of(node[1], parts))
        else:
            worth.append({"push": lambda: node[1], "slot": lambda: told.get(node[1]), "in": lambda: None}[node[0]]())
    return worth


def meanings(nodes, worth=None):
    """What nodes are, with their parts in them."""
    told = []
    for k, node in enumerate(nodes):
        if worth is not None and worth[k] is not None:
            told.append(("push", worth[k]))
        elif node[0] == "make":
            told.append(("make", node[1], tuple(told[part] for part in node[2])))
        else:
            told.append(node)
    return told


def kept_by_words(piece, worth):
    """The meanings of the nodes that a folded piece has."""
    _, _, _, _, nodes, wants, pushes, writes = piece
    results = [*pushes, *[node for _, node in writes]]
    waiting = [k for k, node in enumerate(nodes) if worth[k] is None and may_fail(node)]
    waiting += results + [node for node, _ in wants if worth[node] is None]
    needed = set()
    while waiting:
        k = waiting.pop()
        if k not in needed:
            needed.add(k)
            if worth[k] is None and nodes[k][0] == "make":
                waiting += nodes[k][2]
    told = meanings(nodes, worth)
    return [told[k] for k in needed]


class Case(unittest.TestCase):
    def folded(self, piece, known):
        """A folded piece and its paper, checked by the words of points 52 and 53; None if there is none."""
        used = sorted(slot for slot in known if ("slot", slot) in piece[4] and slot not in dict(piece[2]))
        facts = [*piece[2], *[(slot, known[slot]) for slot in used]]
        worth = values_by_words(piece, facts)
        told = check_untouched(self, fold, piece, known)
        if any(worth[node] not in (None, ("bool", truth)) for node, truth in piece[5]):
            self.assertIsNone(told)
            return None
        self.assertIsInstance(told, tuple)
        folded, paper = told
        self.assertEqual(folded[:4], ("piece", piece[1], facts, piece[3]))
        self.assertIsInstance(folded[2], list)
        mine = meanings(folded[4])
        self.assertEqual(len(set(mine)), len(mine))
        self.assertEqual(set(mine), set(kept_by_words(piece, worth)))
        for row, value in zip(paper, worth):
            self.assertEqual(row[0] == "value", value is not None)
            self.assertIn(row[1], [value] if value is not None else [None, *range(len(mine))])
        self.check_right(piece, folded, paper, True)
        return folded, paper

    def check_right(self, piece, folded, paper, wanted):
        self.assertIs(check_untouched(self, folded_right, piece, folded, paper), wanted)
        self.assertIs(right_by_words(piece, folded, paper), wanted)

    def check_same(self, piece, folded, slots, stack):
        """Checks that a folded piece is done at one go exactly if it should be."""
        knows = all(slots[slot] == value for slot, value in folded[2])
        wanted = done_at_once(piece, slots, stack) if knows else None
        self.assertEqual(check_untouched(self, done_at_once, folded, slots, stack), wanted)
        return wanted

    def straight(self, *rows):
        """The piece of instructions one behind the other."""
        return lift([*rows, ("return",)], list(range(len(rows) + 1)))


class TestExample(unittest.TestCase):
    def test_example(self):
        code = [("get", 0), ("push", ("int", 2)), ("op", "*"), ("get", 1), ("op", "+"), ("put", 1), ("return",)]
        folded, paper = fold(lift(code, [0, 1, 2, 3, 4, 5, 6]), {0: ("int", 5)})
        self.assertEqual((folded[2], len(folded[4]), paper[2]), ([(0, ("int", 5))], 3, ("value", ("int", 10))))
        self.assertEqual(
            (done_at_once(folded, [("int", 5), ("int", 1)], []), done_at_once(folded, [("int", 6), ("int", 1)], [])),
            (([("int", 5), ("int", 11)], []), None))


class TestFolding(Case):
    def test_nothing_is_known(self):
        piece = self.straight(("get", 0), ("get", 1), ADD, ("put", 2))
        folded, paper = self.folded(piece, {})
        self.assertEqual(folded, piece)
        self.assertEqual(paper, [("node", 0), ("node", 1), ("node", 2)])
        self.folded(piece, {7: ONE, 3: TWO})
        self.assertEqual(fold(piece, {7: ONE})[0][2], [])

    def test_known_slots(self):
        piece = self.straight(("get", 3), ("get", 1), ("get", 2), ADD, ADD)
        folded, paper = self.folded(piece, {3: ONE, 2: FIVE, 1: TWO, 0: TWO})
        self.assertEqual(folded[2], [(1, TWO), (2, FIVE), (3, ONE)])
        self.assertEqual(paper, [("value", ONE), ("value", TWO), ("value", FIVE), ("value", ("int", 7)), ("value", ("int", 8))])
        self.assertEqual((folded[4], folded[6]), ([("push", ("int", 8))], [0]))
        folded, paper = self.folded(piece, {3: ONE})
        self.assertEqual(paper[0], ("value", ONE))
        self.assertIn(("push", ONE), folded[4])

    def test_slots_that_are_written_before_they_are_got(self):
        piece = self.straight(("push", ONE), ("put", 0), ("get", 0), ("push", TWO), ADD, ("put", 1))
        folded, paper = self.folded(piece, {0: FIVE, 1: FIVE})
        self.assertEqual(folded[2], [])
        self.assertEqual(folded[7], [(0, folded[4].index(("push", ONE))), (1, folded[4].index(("push", ("int", 3))))])
        piece = self.straight(("get", 0), ("push", TWO), ADD, ("put", 0), ("get", 0), ("push", ONE), ADD)
        folded, _ = self.folded(piece, {0: FIVE})
        self.assertEqual((folded[2], len(folded[4])), ([(0, FIVE)], 2))
        self.assertEqual(done_at_once(folded, [FIVE], []), ([("int", 7)], [("int", 8)]))
        self.assertIsNone(done_at_once(folded, [("int", 7)], []))

    def test_operations_that_fail(self):
        great = ("int", 10 ** 12)
        for row, values in (
                (ADD, [great, ONE]), (("op", "-"), [("int", -10 ** 12), ONE]), (("op", "*"), [great, TWO]),
                (("op", "/"), [ONE, ZERO]), (JOIN, [("text", "a" * 60), WORD]), (("item",), [("list", (ONE,)), ONE]),
                (("item",), [("list", ()), ZERO]), (("item",), [("list", (ONE,)), ("int", -1)]),
                (JOIN, [("list", (ONE,) * 20), ("list", (ONE,))])):
            piece = self.straight(("get", 0), ("get", 1), row, ("drop",))
            folded, paper = self.folded(piece, dict(enumerate(values)))
            self.assertEqual(paper[2][0], "node")
            self.assertEqual(len(folded[4]), 3)
            self.assertIsNone(self.check_same(piece, folded, values, []))
        piece = self.straight(*[("get", 0)] * 21, ("list", "int", 21))
        folded, paper = self.folded(piece, {0: ONE})
        self.assertEqual((len(folded[4]), paper[-1]), (2, ("node", 1)))
        deep = ONE
        for k in range(6):
            deep = ("list", (deep,))
            self.assertEqual(self.folded(self.straight(("get", 0), ("list", self.kind(k), 1)), {0: deep})[1][1][0], "node")
        deep = ONE
        for k in range(6):
            piece = self.straight(("get", 0), ("list", self.kind(k), 1))
            self.assertEqual(self.folded(piece, {0: deep})[1][1], ("value", ("list", (deep,))))
            deep = ("list", (deep,))
        self.assertEqual(self.folded(self.straight(("get", 0), ("list", self.kind(6), 1)), {0: deep})[1][1][0], "node")

    def kind(self, depth):
        kind = "int"
        for _ in range(depth):
            kind = ("list", kind)
        return kind

    def test_values_of_types_that_are_not_needed(self):
        one, other = ("list", (ONE,)), ("list", (WORD,))
        for row, values in (
                (ADD, [ONE, WORD]), (ADD, [TRUE, ONE]), (("op", "/"), [WORD, ONE]), (LESS, [ONE, WORD]), (LESS, [TRUE, TRUE]),
                (("op", "<="), [NONE, NONE]), (LESS, [one, one]), (SAME, [ONE, TRUE]), (SAME, [one, other]),
                (("op", "!="), [ONE, one]), (SAME, [one, ("list", (("list", ()),))]), (JOIN, [ONE, ONE]), (JOIN, [WORD, one]),
                (JOIN, [one, other]), (("item",), [WORD, ZERO]), (("item",), [one, WORD]), (("list", "int", 2), [ONE, WORD]),
                (("list", "text", 2), [ONE, ONE]), (("list", ("list", "int"), 2), [("list", ()), other]),
                (("list", "int", 2), [("list", ()), ("list", ())])):
            piece = self.straight(("get", 0), ("get", 1), row)
            folded, paper = self.folded(piece, dict(enumerate(values)))
            self.assertEqual((paper[2][0], len(folded[4])), ("node", 2 if values[0] == values[1] else 3), row)
        for row, value in ((("not",), ONE), (("neg",), TRUE), (("size",), ONE), (("text of",), WORD), (("text of",), one)):
            piece = self.straight(("get", 0), row)
            folded, paper = self.folded(piece, {0: value})
            self.assertEqual((paper[1], folded[4][0]), (("node", 1), ("push", value)))

    def test_values_that_are_worked_out(self):
        one, empty = ("list", (ONE,)), ("list", ())
        for row, values, result in (
                (ADD, [ONE, TWO], ("int", 3)), (("op", "/"), [("int", -7), TWO], ("int", -4)), (LESS, [WORD, ("text", "b")], TRUE),
                (SAME, [one, empty], FALSE), (SAME, [empty, empty], TRUE), (SAME, [NONE, NONE], TRUE), (JOIN, [one, empty], one),
                (JOIN, [empty, empty], empty), (("op", "!="), [("list", (empty,)), ("list", (one,))], TRUE),
                (("item",), [one, ZERO], ONE), (("list", "int", 2), [ONE, TWO], ("list", (ONE, TWO))),
                (("list", ("list", "int"), 2), [empty, one], ("list", (empty, one)))):
            _, paper = self.folded(self.straight(("get", 0), ("get", 1), row), {0: values[0], 1: values[1]})
            self.assertEqual(paper[2], ("value", result))
        for row, value, result in ((("not",), TRUE, FALSE), (("neg",), ONE, ("int", -1)), (("size",), one, ONE),
                                   (("size",), WORD, TWO), (("text of",), FALSE, ("text", "false"))):
            _, paper = self.folded(self.straight(("get", 0), row), {0: value})
            self.assertEqual(paper[1], ("value", result))

    def test_each_node_once(self):
        piece = self.straight(("push", ONE), ("push", ONE), ("get", 0), ADD, ("push", ONE), ("get", 0), ADD, ("get", 1))
        folded, paper = self.folded(piece, {})
        self.assertEqual(len(folded[4]), 4)
        self.assertEqual([row for row in paper if row[0] == "node"][1], [row for row in paper if row[0] == "node"][2])
        folded, _ = self.folded(piece, {1: ONE})
        self.assertEqual(len(folded[4]), 3)
        # What failed alike stands once, too.
        piece = self.straight(*[("get", 0), ("push", ZERO), ("op", "/"), ("drop",)] * 3)
        self.assertEqual(len(self.folded(piece, {})[0][4]), 3)

    def test_values_that_are_alike_are_told_apart(self):
        for one, other in ((("int", 1), ("bool", True)), (("text", "1"), ONE), (("list", ()), ("list", (("list", ()),))),
                           (("text", ""), NONE), (("list", (ONE,)), ("list", (TRUE,)))):
            piece = self.straight(("get", 0), ("get", 1), ("get", 0))
            folded, _ = self.folded(piece, {0: one, 1: other})
            self.assertEqual(done_at_once(folded, [one, other], []), ([one, other], [one, other, one]))
            self.assertEqual(len(folded[4]), 2)

    def test_what_nothing_needs(self):
        piece = self.straight(("get", 0), ("not",), ("drop",), ("get", 1), ("push", ONE), ADD, ("drop",), ("drop",))
        folded, paper = self.folded(piece, {})
        self.assertEqual(paper[:2], [GONE, GONE])
        self.assertEqual(paper[-1], GONE)
        self.assertEqual((folded[3], folded[4]), (1, [("slot", 1), ("push", ONE), ("make", ADD, [0, 1])]))
        folded, paper = self.folded(piece, {1: ONE})
        self.assertEqual((folded[4], paper[2:5]), ([], [("value", ONE), ("value", ONE), ("value", TWO)]))
        self.assertEqual(self.folded(piece, {0: TRUE})[1][:2], [("value", TRUE), ("value", FALSE)])

    def test_wants(self):
        code = [("get", 0), ("push", ONE), LESS, ("unless", 6), ("get", 1), ("unless", 7), ("push", ONE), ("return",)]
        for places, known, wanted in (
                ([0, 1, 2, 3, 4], {0: ZERO}, []), ([0, 1, 2, 3, 4], {0: ONE}, None), ([0, 1, 2, 3, 6], {0: ONE}, []),
                ([0, 1, 2, 3, 6], {0: ZERO}, None), ([0, 1, 2, 3, 4, 5, 7], {0: ZERO}, [False]),
                ([0, 1, 2, 3, 4, 5, 6], {0: ZERO, 1: TRUE}, []), ([0, 1, 2, 3, 4, 5, 6], {0: ZERO, 1: FALSE}, None),
                ([0, 1, 2, 3, 4, 5, 6], {1: TRUE}, [True]), ([0, 1, 2, 3, 4, 5, 6], {1: ONE}, None),
                ([0, 1, 2, 3, 4, 5, 7], {1: ("int", 0)}, None), ([0, 1, 2, 3, 4, 5, 6], {0: WORD}, [True, True])):
            told = self.folded(lift(code, places), known)
            self.assertEqual(None if told is None else [truth for _, truth in told[0][5]], wanted)
        # An "unless" that leads to the next place wants nothing.
        self.assertIsNotNone(self.folded(lift([("get", 0), ("unless", 2), ("return",)], [0, 1, 2]), {0: FALSE}))

    def test_twice(self):
        piece = self.straight(("get", 0), ("get", 1), ADD, ("get", 2), ADD, ("put", 3))
        first, _ = self.folded(piece, {1: TWO})
        second, _ = self.folded(first, {0: ONE})
        self.assertEqual(second[2], [(1, TWO), (0, ONE)])
        third, _ = self.folded(second, {0: FIVE, 1: FIVE, 2: FIVE})
        self.assertEqual(third[2], [(1, TWO), (0, ONE), (2, FIVE)])
        self.assertEqual(third[4], [("push", ("int", 8))])
        whole, _ = self.folded(piece, {0: ONE, 1: TWO, 2: FIVE})
        self.assertEqual(whole[4], third[4])
        for values in ((ONE, TWO, FIVE), (ONE, TWO, ONE), (TWO, TWO, FIVE), (ONE, ONE, FIVE)):
            slots = [*values, NONE]
            self.assertEqual(done_at_once(third, slots, []), done_at_once(whole, slots, []))
            self.check_same(piece, second, slots, [])

    def test_a_piece_that_knows_a_slot_that_it_gets(self):
        known = ("piece", (0, 3, 3), [(0, ONE)], 0, [("slot", 0), ("slot", 1), ("make", ADD, [0, 1])], [], [2], [])
        folded, paper = self.folded(known, {0: TWO, 1: TWO})
        self.assertEqual((folded[2], paper[2]), ([(0, ONE), (1, TWO)], ("value", ("int", 3))))
        folded, _ = self.folded(known, {})
        self.check_same(known, folded, [ONE, FIVE], [])
        self.check_same(known, folded, [TWO, FIVE], [])

    def test_a_value_that_a_slot_never_has(self):
        piece = self.straight(("get", 0), ("push", ONE), ADD, ("get", 1), ("not",))
        for known in ({0: WORD}, {1: WORD}, {0: NONE, 1: ONE}):
            folded, _ = self.folded(piece, known)
            for slots in ([ONE, TRUE], [FIVE, FALSE]):
                self.assertIsNone(self.check_same(piece, folded, slots, []))
        folded, _ = self.folded(piece, {0: ONE})
        self.assertIsNone(done_at_once(folded, [None, TRUE], []))

    def test_values_from_the_stack(self):
        piece = self.straight(ADD, ("get", 0), ADD, ("put", 0))
        folded, paper = self.folded(piece, {0: ONE})
        self.assertEqual(folded[3], 2)
        self.assertEqual([row[0] for row in paper], ["node", "node", "node", "value", "node"])
        for stack in ([ONE, TWO], [NONE, FIVE, TWO]):
            self.assertIsNotNone(self.check_same(piece, folded, [ONE], stack))
            self.assertIsNone(self.check_same(piece, folded, [TWO], stack))


class TestPapers(Case):
    """Each line of point 52, with what is right and what is not."""

    def setUp(self):
        self.piece = ("piece", (4, 9, 5), [(3, ONE)], 2, [
            ("slot", 0), ("push", TWO), ("make", ADD, [0, 1]), ("in", 1), ("slot", 1), ("make", ADD, [2, 4]),
            ("make", ("neg",), [5]), ("make", LESS, [2, 5]), ("slot", 2)],
            [(7, True), (8, False)], [5, 2], [(1, 6), (4, 2)])
        self.facts = [(3, ONE), (0, FIVE)]
        self.nodes = [
            ("slot", 1), ("push", ("int", 7)), ("make", ADD, [1, 0]), ("make", ("neg",), [2]), ("make", LESS, [1, 2]),
            ("slot", 2)]
        self.paper = [
            ("value", FIVE), ("value", TWO), ("value", ("int", 7)), GONE, ("node", 0), ("node", 2), ("node", 3), ("node", 4),
            ("node", 5)]
        self.folded_piece = (
            "piece", (4, 9, 5), self.facts, 2, self.nodes, [(4, True), (5, False)], [2, 1], [(1, 3), (4, 1)])

    def check(self, wanted, rows=(), **parts):
        """Checks the paper with other rows, for a folded piece with other parts."""
        names = ["piece", "ends", "known", "takes", "nodes", "wants", "pushes", "writes"]
        folded = tuple(parts.get(name, told) for name, told in zip(names, self.folded_piece))
        paper = list(self.paper)
        for at, row in dict(rows).items():
            paper[at] = row
        self.check_right(self.piece, folded, paper, wanted)

    def test_right(self):
        self.check(True)
        told, paper = self.folded(self.piece, {0: FIVE})
        self.assertEqual((told[2], paper[:4]), (self.facts, self.paper[:4]))

    def test_rows(self):
        self.check_right(self.piece, self.folded_piece, self.paper[:-1], False)
        self.check_right(self.piece, self.folded_piece, [*self.paper, GONE], False)
        self.check_right(self.piece, self.folded_piece, [], False)

    def test_ends_and_takes(self):
        for ends in ((4, 8, 5), (3, 9, 5), (4, 9, 4)):
            self.check(False, ends=ends)
        self.check(False, takes=1)
        self.check(False, takes=3)

    def test_what_is_known(self):
        for known, wanted in (
                ([(0, FIVE), (3, ONE)], True), ([(0, FIVE)], False), ([(3, ONE)], False), ([(3, TWO), (0, FIVE)], False),
                ([(3, ONE), (0, FIVE), (3, ONE)], False), ([(3, ONE), (0, FIVE), (0, FIVE)], False),
                ([(3, ONE), (0, FIVE), (0, ONE)], False), ([(3, ONE), (0, FIVE), (5, NONE)], True), ([], False),
                ([(3, ONE), (0, TWO)], False), ([(3, ONE), (0, ONE), (0, FIVE)], False)):
            self.check(wanted, known=known)

    def test_nodes(self):
        nodes = self.nodes
        self.check(True, nodes=[*nodes, ("push", WORD), ("in", 0), ("in", 1), ("slot", 3)])
        self.check(True, nodes=[*nodes, ("make", ("neg",), [2])])
        self.check(False, nodes=[*nodes, ("in", 2)])
        self.check(False, nodes=[*nodes, ("in", -1)])
        # Each part stands before its node.
        for part in (6, 7, -1):
            self.check(False, nodes=[*nodes, ("make", ("neg",), [part])])
        self.check(False, nodes=nodes[:-1])
        self.check(False, nodes=nodes[1:])
        self.check(False, nodes=[])
        for at, other in (
                (0, ("slot", 2)), (0, ("push", TWO)), (1, ("push", ("int", 8))), (1, ("slot", 1)), (2, ("make", ADD, [0, 1])),
                (2, ("make", ("op", "-"), [1, 0])), (2, ("make", ADD, [1, 1])), (2, ("make", ADD, [1])), (2, ("in", 0)),
                (2, ("make", ADD, [1, 0, 0])), (3, ("make", ("neg",), [1])), (4, ("make", ("op", "<="), [1, 2])),
                (5, ("slot", 1)), (3, ("make", ("not",), [2]))):
            self.check(False, nodes=[*nodes[:at], other, *nodes[at + 1:]])

    def test_values(self):
        self.check(False, {0: ("value", TWO)})
        self.check(False, {1: ("value", ONE)})
        self.check(False, {1: ("value", TRUE)})
        self.check(False, {2: ("value", ("int", 8))})
        self.check(False, {3: ("value", ONE)})
        self.check(False, {4: ("value", ONE)})
        self.check(False, {5: ("value", ("int", 9))})
        self.check(False, {8: ("value", FALSE)})
        piece = self.straight(("get", 0), ("push", ZERO), ("op", "/"), ("drop",))
        folded, paper = self.folded(piece, {0: ONE})
        self.check_right(piece, folded, [*paper[:2], ("value", None)], False)
        self.check_right(piece, (*folded[:4], [], *folded[5:]), [*paper[:2], ("value", None)], False)
        for word in (None, 7, 1, True):
            self.check(False, {1: ("value", word)})
            self.check(False, {2: ("value", word)})
            self.check(False, {4: ("value", word)})

    def test_nodes_that_rows_tell(self):
        nodes = [*self.nodes, ("push", TWO), ("slot", 0), ("in", 1)]
        self.check(True, {3: ("node", 8)}, nodes=nodes)
        self.check(False, {3: ("node", 7)}, nodes=nodes)
        # The slot and the push may be told as nodes, but then what is made of them must be, too.
        self.check(False, {0: ("node", 7)}, nodes=nodes)
        self.check(False, {1: ("node", 6)}, nodes=nodes)
        both = [*nodes, ("make", ADD, [7, 6])]
        rows = {0: ("node", 7), 1: ("node", 6), 2: ("node", 9)}
        self.check(False, rows, nodes=both)
        order = [("slot", 0), ("push", TWO), ("make", ADD, [0, 1]), ("slot", 1), ("make", ADD, [2, 3]), ("make", ("neg",), [4]),
                 ("make", LESS, [2, 4]), ("slot", 2)]
        rows = {0: ("node", 0), 1: ("node", 1), 2: ("node", 2), 4: ("node", 3), 5: ("node", 4), 6: ("node", 5), 7: ("node", 6),
                8: ("node", 7)}
        parts = {"wants": [(6, True), (7, False)], "pushes": [4, 2], "writes": [(1, 5), (4, 2)]}
        self.check(True, rows, nodes=order, **parts)
        self.check(True, {**rows, 1: ("value", TWO)}, nodes=order, **parts)
        self.check(False, {**rows, 0: ("value", FIVE)}, nodes=order, **parts)
        self.check(True, {**rows, 0: ("value", FIVE)}, nodes=[("push", FIVE), *order[1:]], **parts)
        self.check(False, {**rows, 0: GONE}, nodes=order, **parts)
        for at in range(9):
            for k in (-1, 6, 99, None):
                self.check(False, {at: ("node", k)})

    def test_equal_nodes_with_other_parts(self):
        # What is made of other parts is not the same, even if it looks so.
        piece = ("piece", (0, 3, 3), [], 0, [("slot", 0), ("slot", 1), ("make", ("op", "-"), [0, 1])], [], [2], [])
        nodes = [("slot", 1), ("slot", 0), ("make", ("op", "-"), [0, 1])]
        folded = ("piece", (0, 3, 3), [], 0, nodes, [], [2], [])
        self.check_right(piece, folded, [("node", 1), ("node", 0), ("node", 2)], False)
        turned = ("piece", (0, 3, 3), [], 0, [*nodes[:2], ("make", ("op", "-"), [1, 0])], [], [2], [])
        self.check_right(piece, turned, [("node", 1), ("node", 0), ("node", 2)], True)
        self.check_right(piece, piece, [("node", 0), ("node", 1), ("node", 2)], True)
        self.check_right(piece, piece, [GONE, ("node", 1), ("node", 2)], False)

    def test_gone(self):
        for at in (0, 1, 2, 4, 5, 6, 7, 8):
            self.check(False, {at: GONE})
        self.check(False, {3: ("gone", 0)})
        piece = self.straight(("get", 0), ("not",), ("drop",), ("get", 1), ("push", ZERO), ("op", "/"), ("drop",))
        folded, paper = self.folded(piece, {})
        self.assertEqual(paper[:2], [GONE, GONE])
        self.check_right(piece, folded, [*paper[:4], GONE], False)
        self.check_right(piece, (*folded[:4], [], *folded[5:]), [*paper[:2], GONE, GONE, GONE], False)

    def test_pushes_writes_and_wants(self):
        for pushes in ([2], [1, 2], [2, 1, 1], [2, 2], [], [2, 0], [2, 99], [2, -5], [-4, 1]):
            self.check(False, pushes=pushes)
        for writes in ([(1, 3)], [(4, 1), (1, 3)], [(1, 3), (5, 1)], [(1, 1), (4, 1)], [(1, 3), (4, 3)], [], [(1, 3), (4, 9)],
                       [(1, 3), (4, 1), (5, 1)]):
            self.check(False, writes=writes)
        for wants in ([(4, True)], [(5, False), (4, True)], [(4, True), (5, True)], [(4, False), (5, False)], [],
                      [(4, True), (5, False), (5, False)], [(3, True), (5, False)]):
            self.check(False, wants=wants)
        self.check(True, nodes=[*self.nodes, ("push", ("int", 7))], pushes=[2, 6], writes=[(1, 3), (4, 1)])
        self.check(True, nodes=[*self.nodes, ("push", ("int", 7))], writes=[(1, 3), (4, 6)])
        self.check(False, nodes=[*self.nodes, ("push", ("int", 8))], pushes=[2, 6])

    def test_wants_that_are_known(self):
        code = [("get", 0), ("unless", 5), ("get", 1), ("unless", 5), ("return",), ("return",)]
        piece = lift(code, [0, 1, 2, 3, 4])
        folded, paper = self.folded(piece, {0: TRUE})
        self.assertEqual(folded[5], [(0, True)])
        rest = folded[3:5]
        for known, row, wants, wanted in (
                (TRUE, ("value", TRUE), [(0, True)], True), (FALSE, ("value", FALSE), [(0, True)], False),
                (ONE, ("value", ONE), [(0, True)], False), (TRUE, ("value", TRUE), [(0, True), (0, True)], False),
                (TRUE, GONE, [(0, True)], False), (TRUE, ("value", TRUE), [], False)):
            other = ("piece", piece[1], [(0, known)], *rest, wants, [], [])
            self.check_right(piece, other, [row, *paper[1:]], wanted)

    def test_nodes_that_may_fail(self):
        for node in (("make", ADD, [0, 1]), ("make", ("op", "/"), [0, 1]), ("make", ("item",), [0, 1]),
                     ("make", ("list", "int", 0), []), ("make", JOIN, [0, 0])):
            self.check(False, nodes=[*self.nodes, node])
        for node in (("make", LESS, [0, 1]), ("make", SAME, [0, 1]), ("make", ("size",), [0]), ("make", ("not",), [4])):
            self.check(True, nodes=[*self.nodes, node])
        # The same node a second time stands in no row.
        self.check(False, nodes=[*self.nodes, self.nodes[2]])


def random_cases(seeds, most=12):
    """Pieces of ways through the code of checked programs, with what makes slots and stacks for them."""
    for seed in seeds:
        rng = random.Random(seed)
        program = Maker(rng).program()
        codes, sorts = compile_program(program), signatures(program)
        paper = verify(codes, sorts)
        for name in sorted(codes):
            code = codes[name][4]
            starts = [at for at in range(len(code)) if paper[name][at] is not None]
            ways = [list(range(first, end + 1)) for first, end in runs(code) if first in starts]
            for start in starts:
                places = [start]
                for _ in range(rng.randrange(1, most)):
                    after = followers(code, places[-1])
                    places += [rng.choice(after)] if after else []
                ways.append(places)
            for places in ways:
                if is_way(code, places):
                    yield rng, code, places, paper[name][places[0]]


def values_for(rng, state):
    """Slots and a stack that have the types of a state."""
    kinds, told, _ = state
    stack = [random_value(rng, kind, True) for kind in kinds]
    slots = [rng.choice([None, random_value(rng, rng.choice(KINDS), True)]) if kind is None
             else random_value(rng, kind, True) for kind in told]
    return slots, stack


class TestRandom(Case):
    def test_pieces_of_programs(self):
        seen = {True: 0, False: 0, None: 0, "twice": 0}
        for rng, code, places, state in random_cases(range(140)):
            piece = lift(code, places)
            slots, stack = values_for(rng, state)
            known = {slot: value for slot, value in enumerate(slots) if value is not None and rng.random() < 0.5}
            if rng.random() < 0.15 and state[1]:
                known[rng.randrange(len(slots))] = random_value(rng, rng.choice(KINDS), True)
            told = self.folded(piece, known)
            if told is None:
                seen[None] += 1
                if all(slots[slot] == value for slot, value in known.items() if ("slot", slot) in piece[4]):
                    self.assertIsNone(done_at_once(piece, slots, stack))
                continue
            folded = told[0]
            result = self.check_same(piece, folded, slots, stack)
            if all(slots[slot] == value for slot, value in folded[2]):
                self.assertEqual(result, stepped(code, places, slots, stack))
            seen[result is not None] += 1
            for _ in range(2):
                self.check_same(piece, folded, *values_for(rng, state))
            more = {slot: value for slot, value in enumerate(slots) if value is not None and rng.random() < 0.5}
            again = self.folded(folded, more)
            if again is not None:
                seen["twice"] += 1
                self.check_same(folded, again[0], slots, stack)
                self.assertEqual(again[0][2][:len(folded[2])], folded[2])
        self.assertGreater(min(seen.values()), 100)

    def test_what_is_turned(self):
        """Whatever a paper is accepted for does the same as the piece."""
        seen = {True: 0, False: 0}
        for rng, code, places, state in random_cases(range(200, 290)):
            piece = lift(code, places)
            if len(piece[4]) > 12:
                continue
            slots, stack = values_for(rng, state)
            known = {slot: value for slot, value in enumerate(slots) if value is not None and rng.random() < 0.4}
            told = fold(piece, known)
            if told is None:
                continue
            for _ in range(4):
                folded, paper = told
                for _ in range(rng.choice([1, 1, 2])):
                    folded, paper = turned(rng, folded, paper, slots)
                wanted = right_by_words(piece, folded, paper)
                self.assertIs(check_untouched(self, folded_right, piece, folded, paper), wanted)
                seen[wanted] += 1
                if wanted:
                    for rows in [(slots, stack)] + [values_for(rng, state) for _ in range(4)]:
                        self.check_same(piece, folded, *rows)
        self.assertGreater(seen[True], 300)
        self.assertGreater(seen[False], 2000)


def turned(rng, folded, paper, slots):
    """A folded piece and its paper with something otherwise."""
    word, ends, known, takes, nodes, wants, pushes, writes = folded
    node = lambda: rng.randrange(-1, len(nodes) + 1)
    value = lambda: rng.choice([*[told for told in slots if told is not None], ONE, TRUE, FALSE, WORD, ("list", ())])

    def changed(rows, other):
        at = rng.randrange(len(rows) + 1)
        return rows[:at] + rng.choice([[], [other], [other]]) + rows[at + rng.choice([0, 1, 1]):]

    way = rng.randrange(8)
    if way == 0:
        row = rng.choice([GONE, ("value", value()), ("node", node())])
        at = rng.randrange(len(paper) + 1)
        return folded, changed(paper, row) if rng.random() < 0.2 or at == len(paper) else [*paper[:at], row, *paper[at + 1:]]
    if way == 1 and slots:
        known = changed(known, (rng.randrange(len(slots)), value()))
    elif way == 2 and nodes:
        rows = [other[1] for other in nodes if other[0] == "make"] + [ADD, ("not",)]
        at = rng.randrange(len(nodes))
        told = nodes[at]
        if told[0] == "make" and rng.random() < 0.7:
            other = ("make", rng.choice([told[1], rng.choice(rows)]), [rng.choice([part, node()]) for part in told[2]])
        else:
            other = rng.choice([("push", value()), ("in", rng.randrange(takes + 1)), *nodes])
        nodes = [*nodes[:at], other, *nodes[at + 1:]]
    elif way == 3:
        nodes = [*nodes, rng.choice([("push", value()), *[other for other in nodes if other[0] != "slot"]])]
    elif way == 4:
        wants = changed(wants, (node(), rng.random() < 0.5))
    elif way == 5:
        pushes = changed(pushes, node())
    elif way == 6:
        writes = changed(writes, (rng.randrange(len(slots) or 1), node()))
    else:
        ends, takes = rng.choice([((ends[0], ends[1], ends[2] + 1), takes), (ends, takes + 1)])
    return (word, ends, known, takes, nodes, wants, pushes, writes), paper


class TestText(Case):
    def test_a_loop(self):
        program = read_program("fn f(a: int, b: int): int { let s = 0; while s < a { set s = s + b; } return s; }")
        code = compile_program(program)["f"][4]
        loop = [*range(2, code.index(("jump", 2)) + 1), 2]
        piece = lift(code, loop)
        folded, _ = self.folded(piece, {0: FIVE, 1: TWO})
        self.assertEqual(folded[2], [(0, FIVE), (1, TWO)])
        for slots in ([FIVE, TWO, ZERO], [FIVE, TWO, FIVE], [FIVE, ONE, ZERO], [ONE, TWO, ZERO]):
            self.check_same(piece, folded, slots, [])
        self.assertEqual(done_at_once(folded, [FIVE, TWO, ZERO], []), ([FIVE, TWO, TWO], []))
        self.assertIsNone(self.folded(piece, {2: FIVE, 0: FIVE}))


if __name__ == "__main__":
    unittest.main()
