import itertools
import random
import unittest

from flowreprise.errors import ReadError
from flowreprise.printing import show_expression, show_program
from flowreprise.trees import read_expression, read_program
from tests.helper import LEVELS, AnyMaker, Maker, check_untouched, program_words, spaced, tree_words

A, B, C, ONE, TWO = ("var", "a"), ("var", "b"), ("var", "c"), ("int", 1), ("int", 2)
SIGNS = list(LEVELS)


def op(sign, one, other):
    return ("op", sign, one, other)


def spaced_out(words):
    """The text of the words of an expression, with the spaces of point 19."""
    text, before, was_between = "", "", False
    for word in words:
        # A sign stands between two parts if the word before it ends a part.
        ends = before in (")", "]") or before[:1].isalnum() or before[:1] == '"'
        is_between = word in LEVELS and ends and before not in ("not", "or", "and")
        is_behind = before in (",", "not", "await", "act", "signal", "flow") or before == ":" and word != "]"
        text += (" " if is_between or was_between or is_behind else "") + word
        before, was_between = word, is_between
    return text


def lines_of(body, depth):
    """The lines of the statements of a body, by the words of point 19."""
    lines = []
    for row in body:
        inner = lambda k: lines_of(row[k], depth + 1)
        shown = lambda k: spaced_out(tree_words(row[k]))
        if row[0] in ("let", "set"):
            told = [f"{row[0]} {row[1]} = {shown(2)};"]
        elif row[0] in ("return", "do", "fail"):
            told = [f"{row[0]} {shown(1)};"]
        elif row[0] == "while":
            told = ["while " + shown(1) + " {", *inner(2), "}"]
        elif row[0] == "try":
            told = ["try {", *inner(1), "} catch " + row[2] + " {", *inner(3), "}"]
        else:
            told = ["if " + shown(1) + " {", *inner(2), *(["} else {", *inner(3)] if row[3] else []), "}"]
        lines += [line if line.startswith("  ") else "  " * depth + line for line in told]
    return lines


def text_by_words(program):
    texts = []
    for row in program:
        head, _ = spaced(program_words([(*row[:4], [])]))
        head = head[:-len(" { }")].replace(" (", "(").replace("( ", "(").replace(" )", ")").replace(" :", ":")
        head = head.replace(" ,", ",").replace("[ ", "[").replace(" ]", "]")
        texts.append("\n".join([head + " {", *lines_of(row[4], 1), "}"]))
    return "\n\n".join(texts)


def pairs_of(text):
    """The places of the parentheses that belong together, but for those in texts."""
    found, opened, is_text = [], [], False
    for at, letter in enumerate(text):
        if letter == '"':
            is_text = not is_text
        elif letter == "(" and not is_text:
            opened.append(at)
        elif letter == ")" and not is_text:
            found.append((opened.pop(), at))
    return found


class Case(unittest.TestCase):
    def check(self, tree, text):
        self.assertEqual(check_untouched(self, show_expression, tree), text)
        self.assertEqual(read_expression(text), tree)

    def check_body(self, body, *lines):
        program = [("fn", "f", [], "int", body)]
        text = "\n".join(["fn f(): int {", *lines, "}"])
        self.assertEqual(check_untouched(self, show_program, program), text)
        self.assertEqual(read_program(text), program)

    def check_needed(self, tree):
        """Checks that no parentheses may be left out."""
        text = show_expression(tree)
        self.assertEqual(read_expression(text), tree)
        for first, last in pairs_of(text):
            try:
                other = read_expression(text[:first] + " " + text[first + 1:last] + " " + text[last + 1:])
            except ReadError:
                continue
            self.assertNotEqual(other, tree, text)


class TestExamples(unittest.TestCase):
    def test_examples(self):
        self.assertEqual(
            show_expression(("op", "-", ("int", 1), ("op", "-", ("neg", ("var", "a")), ("list", "int", [])))),
            "1 - (-a - [int:])")
        self.assertEqual(
            show_program([("fn", "f", [], "int", [
                ("if", ("bool", True), [("return", ("int", 1))], []), ("return", ("int", 2))])]),
            "fn f(): int {\n  if true {\n    return 1;\n  }\n  return 2;\n}")


class TestExpressions(Case):
    def test_each_row(self):
        for tree, text in (
                (("int", 0), "0"), (("int", 10 ** 12), "1000000000000"), (("bool", True), "true"),
                (("bool", False), "false"), (("text", ""), '""'), (("text", 'a"b# {'), '"a""b# {"'),
                (("text", "~" * 60), '"' + "~" * 60 + '"'), (("nothing",), "nothing"), (A, "a"),
                (("var", "abcdefgh"), "abcdefgh"), (("not", A), "not a"), (("neg", A), "-a"), (("item", A, ONE), "a[1]"),
                (("list", "int", []), "[int:]"), (("list", "int", [ONE]), "[int: 1]"),
                (("list", "text", [A, B, C]), "[text: a, b, c]"), (("size", A), "size(a)"), (("text of", A), "text(a)"),
                (("random", A), "random(a)"), (("now",), "now"), (("call", "f", []), "f()"), (("call", "f", [A]), "f(a)"),
                (("call", "f", [A, ONE]), "f(a, 1)"), (("await", "act", "pay", A, "int"), "await act pay(a): int"),
                (("await", "act", "pay", op("or", A, B), ("list", "bool")), "await act pay(a or b): [bool]"),
                (("await", "timer", op("+", A, ONE)), "await timer(a + 1)"),
                (("await", "signal", "go", "nothing"), "await signal go: nothing"),
                (("await", "flow", "f", []), "await flow f()"), (("await", "flow", "f", [A, B]), "await flow f(a, b)")):
            with self.subTest(text=text):
                self.check(tree, text)
                self.check(("not", tree), "not " + (text))
                self.check(("neg", tree), "-" + text)
                self.check(("list", "int", [tree, tree]), f"[int: {text}, {text}]")
                self.check(("call", "g", [tree, tree]), f"g({text}, {text})")
                self.check(("item", A, tree), f"a[{text}]")
        for sign in SIGNS:
            self.check(op(sign, A, B), f"a {sign} b")

    def test_lists_of_each_type(self):
        kind = "int"
        for depth in range(6):
            for inner in ("int", "bool", "text", "nothing"):
                kind = inner
                for _ in range(depth):
                    kind = ("list", kind)
                text = "[" * depth + inner + "]" * depth
                self.check(("list", kind, []), f"[{text}:]")
                self.check(("list", kind, [A]), f"[{text}: a]")
                self.check(("await", "signal", "go", ("list", kind)), f"await signal go: [{text}]")
                self.check(("await", "act", "pay", ("list", kind, []), ("list", kind)), f"await act pay([{text}:]): [{text}]")

    def test_each_pair_of_signs(self):
        for one, other in itertools.product(SIGNS, SIGNS):
            # The other sign in the first part of the one, and in the second part.
            binds = LEVELS[other] - LEVELS[one]
            is_apart = LEVELS[one] == 3 and LEVELS[other] == 3
            first = f"(a {other} b) {one} c" if binds < 0 or is_apart else f"a {other} b {one} c"
            self.check(op(one, op(other, A, B), C), first)
            second = f"a {one} b {other} c" if binds > 0 else f"a {one} (b {other} c)"
            self.check(op(one, A, op(other, B, C)), second)
            self.check_needed(op(one, op(other, A, B), op(other, B, C)))

    def test_signs_in_front(self):
        for sign in SIGNS:
            for word, front in (("not", "not "), ("neg", "-")):
                self.check((word, op(sign, A, B)), f"{front}(a {sign} b)")
                self.check(op(sign, (word, A), B), f"{front}a {sign} b")
                self.check(op(sign, A, (word, B)), f"a {sign} {front}b")
                self.check(op(sign, (word, op(sign, A, B)), (word, op(sign, B, C))),
                           f"{front}(a {sign} b) {sign} {front}(b {sign} c)")
        for one, other in itertools.product(("not", "neg"), repeat=2):
            fronts = {"not": "not ", "neg": "-"}
            self.check((one, (other, A)), fronts[one] + fronts[other] + "a")
            self.check((one, (other, ("item", A, ONE))), fronts[one] + fronts[other] + "a[1]")

    def test_indexes(self):
        for sign in SIGNS:
            self.check(("item", op(sign, A, B), op(sign, A, B)), f"(a {sign} b)[a {sign} b]")
            self.check(op(sign, ("item", A, ONE), ("item", B, ONE)), f"a[1] {sign} b[1]")
        for word, front in (("not", "not "), ("neg", "-")):
            self.check(("item", (word, A), (word, A)), f"({front}a)[{front}a]")
            self.check((word, ("item", A, ONE)), f"{front}a[1]")
        self.check(("item", ("item", A, B), ("item", B, ONE)), "a[b][b[1]]")
        for tree, text in (
                (ONE, "1"), (("text", "x"), '"x"'), (("bool", True), "true"), (("nothing",), "nothing"), (("now",), "now"),
                (("list", "int", [ONE]), "[int: 1]"), (("list", ("list", "int"), []), "[[int]:]"), (("size", A), "size(a)"),
                (("random", A), "random(a)"), (("call", "f", [A]), "f(a)"), (("await", "timer", A), "await timer(a)"),
                (("await", "act", "pay", A, ("list", "int")), "await act pay(a): [int]"),
                (("await", "signal", "go", ("list", ("list", "int"))), "await signal go: [[int]]"),
                (("await", "flow", "f", []), "await flow f()")):
            self.check(("item", tree, ONE), text + "[1]")

    def test_random_trees(self):
        for seed in range(1500):
            tree = AnyMaker(random.Random(seed)).tree(5)
            self.check(tree, spaced_out(tree_words(tree)))
            self.check_needed(tree)


class TestStatements(Case):
    def test_each_row(self):
        for body, lines in (
                ([], []), ([("let", "a", ONE)], ["let a = 1;"]), ([("set", "a", op("=", A, B))], ["set a = a = b;"]),
                ([("return", A)], ["return a;"]), ([("do", A)], ["do a;"]), ([("fail", A)], ["fail a;"]),
                ([("while", A, [])], ["while a {", "}"]), ([("while", A, [("do", B)])], ["while a {", "  do b;", "}"]),
                ([("if", A, [], [])], ["if a {", "}"]), ([("if", A, [("do", B)], [])], ["if a {", "  do b;", "}"]),
                ([("if", A, [], [("do", B)])], ["if a {", "} else {", "  do b;", "}"]),
                ([("if", A, [("do", B)], [("do", C), ("do", C)])],
                 ["if a {", "  do b;", "} else {", "  do c;", "  do c;", "}"]),
                ([("try", [], "c", [])], ["try {", "} catch c {", "}"]),
                ([("try", [("do", A)], "c", [])], ["try {", "  do a;", "} catch c {", "}"]),
                ([("try", [], "c", [("fail", C)])], ["try {", "} catch c {", "  fail c;", "}"])):
            with self.subTest(lines=lines):
                inner = ["  " + line for line in lines]
                self.check_body(body, *inner)
                self.check_body([*body, ("do", A), *body], *inner, "  do a;", *inner)
                deeper = ["  " + line for line in inner]
                self.check_body([("while", A, body)], "  while a {", *deeper, "  }")
                self.check_body([("if", A, body, [])], "  if a {", *deeper, "  }")
                self.check_body([("try", body, "e", body)], "  try {", *deeper, "  } catch e {", *deeper, "  }")
                other = ["  } else {", *deeper] if body else []
                self.check_body([("if", B, body, body)], "  if b {", *deeper, *other, "  }")

    def test_if_and_try_inside_of_one_another(self):
        for depth in range(1, 5):
            for words in itertools.product(("then", "else", "try", "catch"), repeat=depth):
                body, lines = [("do", A)], ["do a;"]
                for word in words:
                    told = ["  " + line for line in lines]
                    if word == "then":
                        body, lines = [("if", A, body, [])], ["if a {", *told, "}"]
                    elif word == "else":
                        body, lines = [("if", A, [], body)], ["if a {", "} else {", *told, "}"]
                    elif word == "try":
                        body, lines = [("try", body, "c", [])], ["try {", *told, "} catch c {", "}"]
                    else:
                        body, lines = [("try", [], "c", body)], ["try {", "} catch c {", *told, "}"]
                self.check_body(body, *["  " + line for line in lines])


class TestPrograms(Case):
    def check_program(self, program, text):
        self.assertEqual(check_untouched(self, show_program, program), text)
        self.assertEqual(read_program(text), program)

    def test_functions(self):
        self.check_program([("fn", "f", [], "nothing", [])], "fn f(): nothing {\n}")
        self.check_program([("fn", "f", [("a", "int")], ("list", "int"), [])], "fn f(a: int): [int] {\n}")
        self.check_program(
            [("fn", "f", [("a", ("list", ("list", "text"))), ("b", "bool"), ("c", "nothing")], "text", [("return", A)])],
            "fn f(a: [[text]], b: bool, c: nothing): text {\n  return a;\n}")
        one, other = ("fn", "f", [], "int", [("return", ONE)]), ("fn", "g", [("a", "int")], "int", [])
        self.check_program([one, other], "fn f(): int {\n  return 1;\n}\n\nfn g(a: int): int {\n}")
        self.check_program([other, one, other], "fn g(a: int): int {\n}\n\nfn f(): int {\n  return 1;\n}\n\n"
                                                "fn g(a: int): int {\n}")

    def test_checked_programs(self):
        for seed in range(200):
            program = Maker(random.Random(seed)).program()
            self.check_program(program, text_by_words(program))

    def test_programs_whose_types_do_not_fit(self):
        for seed in range(400):
            program = AnyMaker(random.Random(seed)).program()
            self.check_program(program, text_by_words(program))


class TestBounds(Case):
    """What is just within the bounds is written and read back."""

    def test_programs(self):
        body = [("do", A)] * 50
        for _ in range(9):
            body = [("while", A, body)] + [("do", A)] * 49
        params = [("abcdefgh", ("list", ("list", ("list", ("list", ("list", ("list", "int")))))))] * 8
        program = [("fn", "f", params, "int", body)]
        self.assertEqual(read_program(show_program(program)), program)
        program = [("fn", "f", [], "int", [])] * 20
        self.assertEqual(read_program(show_program(program)), program)

    def test_trees(self):
        for tree in (("list", "int", [A] * 20), ("call", "f", [A] * 8), ("await", "flow", "f", [A] * 8)):
            self.assertEqual(read_expression(show_expression(tree)), tree)
        for grow in (
                lambda tree: op("+", tree, A), lambda tree: op("=", A, op("+", tree, A)) if tree[0] == "var" else op(
                    "or", tree, A), lambda tree: ("neg", tree), lambda tree: ("not", tree), lambda tree: ("size", tree),
                lambda tree: ("item", A, tree), lambda tree: ("item", tree, A), lambda tree: ("call", "f", [A, tree]),
                lambda tree: ("list", "int", [tree]), lambda tree: ("await", "timer", tree),
                lambda tree: ("await", "act", "pay", tree, "int"), lambda tree: op("-", A, tree)):
            tree, depth = A, 1
            while True:
                grown = grow(tree)
                depth += 2 if grown[0] == "op" and grown[1] == "=" else 1
                if depth > 30:
                    break
                tree = grown
            self.assertEqual(read_expression(show_expression(tree)), tree)
            self.assertRaises(ReadError, read_expression, show_expression(grow(tree)))
        # 29 insides around a part without parts: the parentheses that the tree needs count for nothing else.
        tree = A
        for _ in range(14):
            tree = ("neg", op("*", A, tree))
        self.check(tree, "-(a * " * 14 + "a" + ")" * 14)


if __name__ == "__main__":
    unittest.main()
