import random
import re
import unittest

from flowreprise.errors import ReadError
from flowreprise.trees import read_expression, read_program
from tests.helper import RESERVED, Maker, program_words, spaced, tree_words

A, B, C, ONE, TWO = ("var", "a"), ("var", "b"), ("var", "c"), ("int", 1), ("int", 2)


def place_told(function, text):
    try:
        function(text)
    except ReadError as error:
        return error.at
    return None


def op(sign, one, other):
    return ("op", sign, one, other)


class Case(unittest.TestCase):
    def check(self, text, tree):
        self.assertEqual(read_expression(text), tree)

    def check_body(self, text, body):
        self.assertEqual(read_program("fn f(): int {" + text + "}"), [("fn", "f", [], "int", body)])

    def check_wrong(self, text, at):
        self.assertEqual(place_told(read_expression, text), at, text)

    def check_wrong_program(self, text, at):
        self.assertEqual(place_told(read_program, text), at, text)


class TestExamples(Case):
    def test_examples(self):
        self.assertEqual(
            read_expression("1 - 2 * -x[0]"),
            ("op", "-", ("int", 1), ("op", "*", ("int", 2), ("neg", ("item", ("var", "x"), ("int", 0))))))
        self.assertEqual(
            read_program("fn main(n: int): [text] { do await timer(n); return [text: text(n)]; }"),
            [("fn", "main", [("n", "int")], ("list", "text"), [
                ("do", ("await", "timer", ("var", "n"))),
                ("return", ("list", "text", [("text of", ("var", "n"))]))])])
        with self.assertRaises(ReadError) as told:
            read_expression("a < b < c")
        self.assertEqual(told.exception.at, 6)


class TestWords(Case):
    def test_names(self):
        self.check("a", A)
        self.check("abcdefgh", ("var", "abcdefgh"))
        self.check("nows", ("var", "nows"))
        self.check("i", ("var", "i"))
        self.check_wrong("abcdefghi", 0)
        self.check_wrong("1 + abcdefghi", 4)
        self.check_wrong("aB", 1)
        self.check_wrong("A", 0)
        self.check_wrong("a_b", 1)

    def test_reserved_words_are_no_names(self):
        for word in RESERVED:
            self.check_wrong_program("fn " + word + "(): int { }", 3)
            self.check_wrong_program("fn f(): int { let " + word + " = 1; }", 18)
        self.assertEqual(len(RESERVED), 28)

    def test_numbers(self):
        self.check("0", ("int", 0))
        self.check("10", ("int", 10))
        self.check("1000000000000", ("int", 10 ** 12))
        for digits in ("1000000000001", "9999999999999", "10000000000000", "00", "01", "0000", "1" * 6000):
            self.check_wrong(digits, 0)
            self.check_wrong("- " + digits + " @", 2)
        self.check_wrong("1 2", 2)
        self.check_wrong("1a", 1)
        self.check_wrong("a1", 1)

    def test_texts(self):
        self.check('""', ("text", ""))
        self.check('"a""b#~ "', ("text", 'a"b#~ '))
        self.check('"' + "a" * 60 + '"', ("text", "a" * 60))
        self.check('"' + '""' * 60 + '"', ("text", '"' * 60))
        for text in ('"', '"a', '"a""', '"a\n"', '"' + "a" * 61 + '"', '"' + '""' * 61 + '"', '"""', '"a # b'):
            self.check_wrong(text, 0)
            self.check_wrong("a = " + text, 4)
        self.check_wrong('"a" "b"', 4)

    def test_signs(self):
        self.check("a<=b", op("<=", A, B))
        self.check("a!=b", op("!=", A, B))
        self.check("a<-b", op("<", A, ("neg", B)))
        self.check("a--b", op("-", A, ("neg", B)))
        for letter in "!@>$'?.\\^_`|~":
            self.check_wrong("a " + letter + " b", 2)
        self.check_wrong("a < = b", 4)
        self.check_wrong("a ! = b", 2)
        self.check_wrong("a == b", 3)
        self.check_wrong("a=<b", 2)

    def test_between_words(self):
        self.check(" \n a \n\n+ # b + $ \" \n # \n b#", op("+", A, B))
        self.check("# \n#\n a", A)
        self.check('"#"#', ("text", "#"))
        self.check_wrong("a # b", None)
        self.check_wrong("# a", 3)
        self.check_wrong("", 0)
        self.check_wrong("  \n", 3)
        self.check_wrong("a + # b\n", 8)
        self.check("notnot", ("var", "notnot"))
        self.check("not(a)", ("not", A))


class TestExpressions(Case):
    def test_each_row(self):
        for text, tree in (
                ("7", ("int", 7)), ("true", ("bool", True)), ("false", ("bool", False)), ('"x"', ("text", "x")),
                ("nothing", ("nothing",)), ("a", A), ("not a", ("not", A)), ("-a", ("neg", A)),
                ("a[1]", ("item", A, ONE)), ("[int:]", ("list", "int", [])), ("[int: 1]", ("list", "int", [ONE])),
                ("[[text]: a, b, c]", ("list", ("list", "text"), [A, B, C])), ("size(a)", ("size", A)),
                ("text(a)", ("text of", A)), ("random(a)", ("random", A)), ("now", ("now",)),
                ("a()", ("call", "a", [])), ("a(b)", ("call", "a", [B])), ("a(1, b)", ("call", "a", [ONE, B])),
                ("await act a(b): int", ("await", "act", "a", B, "int")),
                ("await act a(b): [[nothing]]", ("await", "act", "a", B, ("list", ("list", "nothing")))),
                ("await timer(a)", ("await", "timer", A)), ("await signal a: bool", ("await", "signal", "a", "bool")),
                ("await flow a()", ("await", "flow", "a", [])), ("await flow a(b, 1)", ("await", "flow", "a", [B, ONE])),
                ("(a)", A), ("((a))", A)):
            with self.subTest(text=text):
                self.check(text, tree)
                self.check("(" + text + ")", tree)
        for sign in ("or", "and", "=", "!=", "<", "<=", "&", "+", "-", "*", "/"):
            self.check("a " + sign + " b", op(sign, A, B))

    def test_neighbouring_groups(self):
        groups = [["or"], ["and"], ["=", "!=", "<", "<="], ["&"], ["+", "-"], ["*", "/"]]
        for weak, strong in zip(groups, groups[1:]):
            for one in weak:
                for other in strong:
                    self.check(f"a {one} b {other} c", op(one, A, op(other, B, C)))
                    self.check(f"a {other} b {one} c", op(one, op(other, A, B), C))
                    self.check(f"(a {one} b) {other} c", op(other, op(one, A, B), C))
        for group in groups:
            for one in group:
                for other in group:
                    text = f"a {one} b {other} c"
                    if group[0] == "=":
                        self.check_wrong(text, 5 + len(one))
                        self.check(f"(a {one} b) {other} c", op(other, op(one, A, B), C))
                        self.check(f"a {one} (b {other} c)", op(one, A, op(other, B, C)))
                    else:
                        self.check(text, op(other, op(one, A, B), C))

    def test_comparisons_apart(self):
        self.check("a < b and b < c", op("and", op("<", A, B), op("<", B, C)))
        self.check("a = b or a = c or b != c", op("or", op("or", op("=", A, B), op("=", A, C)), op("!=", B, C)))
        self.check_wrong("a + b < b & c = a", 14)
        self.check_wrong("a and b = c != a", 12)

    def test_signs_in_front(self):
        self.check("-a[1]", ("neg", ("item", A, ONE)))
        self.check("not a[1]", ("not", ("item", A, ONE)))
        self.check("not a = b", op("=", ("not", A), B))
        self.check("-a * b", op("*", ("neg", A), B))
        self.check("a * -b[1] / c", op("/", op("*", A, ("neg", ("item", B, ONE))), C))
        self.check("- -a", ("neg", ("neg", A)))
        self.check("not not - not a", ("not", ("not", ("neg", ("not", A)))))
        self.check("-(a + b)", ("neg", op("+", A, B)))
        self.check("(-a)[1]", ("item", ("neg", A), ONE))
        self.check_wrong("a not b", 2)
        self.check_wrong("+a", 0)

    def test_indexes(self):
        self.check("a[b][1]", ("item", ("item", A, B), ONE))
        self.check("a[b[1]]", ("item", A, ("item", B, ONE)))
        self.check("a(b)[1]", ("item", ("call", "a", [B]), ONE))
        self.check("[int: 1][1]", ("item", ("list", "int", [ONE]), ONE))
        self.check("(a & b)[1]", ("item", op("&", A, B), ONE))
        self.check("await signal a: [int][1]", ("item", ("await", "signal", "a", ("list", "int")), ONE))
        self.check("1[2]", ("item", ONE, TWO))
        self.check_wrong("a[]", 2)
        self.check_wrong("a[1,2]", 3)

    def test_awaiting_between_signs(self):
        self.check("1 + await act a(b): int + 2", op("+", op("+", ONE, ("await", "act", "a", B, "int")), TWO))
        self.check("-await timer(a)", ("neg", ("await", "timer", A)))

    def test_wrong_words(self):
        for text, at in (
                ("a b", 2), ("a +", 3), ("(a", 2), ("a)", 1), ("()", 1), ("f(a,)", 4), ("f(,a)", 2), ("f(a b)", 4),
                ("[1]", 1), ("[int]", 4), ("[int: a b]", 8), ("[int: ,]", 6), ("[int: a,]", 8), ("[foo: a]", 1),
                ("[[int: a]", 5), ("size", 4), ("size a", 5), ("size()", 5), ("text(a, b)", 6), ("random", 6),
                ("now()", 3), ("await", 5), ("await a", 6), ("await act (a)", 10), ("await act a", 11),
                ("await act a()", 12), ("await act a(b)", 14), ("await act a(b) int", 15), ("await act a(b, c): int", 13),
                ("await act a(b): c", 16), ("await timer", 11), ("await timer(a): int", 14), ("await signal a()", 14),
                ("await signal int", 13), ("await flow a", 12), ("await flow a(b): int", 15), ("int", 0), ("fn", 0),
                ("true false", 5), ("a;", 1), ("{", 0), ("await signal a: [int", 20), ("await signal a: []", 17)):
            self.check_wrong(text, at)


class TestStatements(Case):
    def test_each_row(self):
        for text, row in (
                ("let a = b;", ("let", "a", B)), ("set a = b;", ("set", "a", B)), ("return a;", ("return", A)),
                ("do a;", ("do", A)), ("fail a;", ("fail", A)), ("if a {}", ("if", A, [], [])),
                ("if a {} else {}", ("if", A, [], [])), ("if a {do b;}", ("if", A, [("do", B)], [])),
                ("if a {} else {do b; do c;}", ("if", A, [], [("do", B), ("do", C)])), ("while a {}", ("while", A, [])),
                ("while a {do b;}", ("while", A, [("do", B)])), ("try {} catch c {}", ("try", [], "c", [])),
                ("try {do a;} catch c {fail c;}", ("try", [("do", A)], "c", [("fail", C)])),
                ("if a {if b {}} else {while c {try {} catch a {}}}",
                 ("if", A, [("if", B, [], [])], [("while", C, [("try", [], "a", [])])]))):
            with self.subTest(text=text):
                self.check_body(text, [row])
                self.check_body(text + "do a;" + text, [row, ("do", A), row])
        self.check_body("", [])

    def test_functions(self):
        self.assertEqual(read_program("fn f(): int {}"), [("fn", "f", [], "int", [])])
        self.assertEqual(
            read_program("fn g(a: [bool], b: text): nothing { } fn f(): [[int]] { }"),
            [("fn", "g", [("a", ("list", "bool")), ("b", "text")], "nothing", []),
             ("fn", "f", [], ("list", ("list", "int")), [])])

    def test_wrong_words(self):
        head = "fn f(): int { "
        for text, at in (
                ("a;", 0), ("let a;", 5), ("let = 1;", 4), ("let a = ;", 8), ("let a = 1 }", 10), ("let a == 1;", 7),
                ("return;", 6), ("return 1 }", 9), ("do;", 2), ("fail }", 5), ("if {}", 3), ("if a;", 4),
                ("if a {} else;", 12), ("if a {} else if b {}", 13), ("else {}", 0), ("while {}", 6), ("try a;", 4),
                ("try {} {}", 7), ("try {} catch {}", 13), ("try {} catch a;", 14), ("try {} }", 7), ("catch a {}", 0),
                ("1;", 0), ("do a b;", 5), ("{}", 0), ("set a = 1;;", 10), ("fn", 0), ("if a {} else {} else {}", 16)):
            self.check_wrong_program(head + text + "}", len(head) + at)
        for text, at in (
                ("", 0), ("fn", 2), ("f", 0), ("fn f", 4), ("fn f(", 5), ("fn f()", 6), ("fn f():", 7), ("fn f(): int", 11),
                ("fn f(): int {", 13), ("fn f(): int {}}", 14), ("fn f(): int {} f", 15), ("fn f() int {}", 7),
                ("fn f(a): int {}", 6), ("fn f(a:): int {}", 7), ("fn f(a: int,): int {}", 12), ("fn f(,): int {}", 5),
                ("fn f(a: int b: int): int {}", 12), ("fn f(a: b): int {}", 8), ("fn f(): b {}", 8),
                ("fn f(): [int {}", 13), ("fn f(): int] {}", 11), ("fn f(): int {} #", None), ("# fn", 4)):
            self.check_wrong_program(text, at)


def summed(count):
    return " + ".join(["a"] * count)


class TestBounds(Case):
    def test_functions(self):
        text = "fn f(): int {} " * 20
        self.assertEqual(len(read_program(text)), 20)
        self.check_wrong_program(text + "fn f(): int {}", len(text))
        self.check_wrong_program(text + "fn f(: int {}", len(text))

    def test_parameters(self):
        eight = "fn f(" + ", ".join(["a: int"] * 8)
        self.assertEqual(len(read_program(eight + "): int {}")[0][2]), 8)
        self.check_wrong_program(eight + ", b: int): int {}", len(eight) + 2)

    def test_statements(self):
        text = "fn f(): int {" + "do a;" * 50
        self.assertEqual(len(read_program(text + "}")[0][4]), 50)
        self.check_wrong_program(text + "do a;}", len(text))
        self.check_wrong_program(text + " let", len(text) + 1)
        inner = "fn f(): int { if a {" + "if a {} " * 50
        self.assertEqual(len(read_program(inner + "} do a;}")[0][4][0][2]), 50)
        self.check_wrong_program(inner + "do a; }}", len(inner))

    def test_bodies(self):
        for start, end in (("while a {", "}"), ("if a {", "}"), ("if a {} else {", "}"), ("try {", "} catch c {}"),
                           ("try {} catch c {", "}")):
            text = "fn f(): int {" + start * 9
            self.check_wrong_program(text + "do a;" + end * 9 + "}", None)
            self.check_wrong_program(text + "do a;" + end * 9 + "while a {}}", None)
            self.check_wrong_program(text + "while a {}" + end * 9 + "}", len(text) + 8)
            deep = text[:13] + "while a {}" + text[13:]
            self.check_wrong_program(deep + "while a {}" + end * 9 + "}", len(deep) + 8)
            wrong = text + "while a {do a;}" + end * 9 + "}"
            self.check_wrong_program(wrong, len(text) + 8)

    def test_arguments(self):
        for start in ("f(", "await flow f("):
            eight = start + ", ".join(["a"] * 8)
            self.check_wrong(eight + ")", None)
            self.check_wrong(eight + ", b)", len(eight) + 2)
            self.check_wrong(eight + ", -b)", len(eight) + 2)

    def test_items(self):
        twenty = "[int: " + ", ".join(["a"] * 20)
        self.assertEqual(len(read_expression(twenty + "]")[2]), 20)
        self.check_wrong(twenty + ", a]", len(twenty) + 2)
        self.check_wrong(twenty + ", ]", len(twenty) + 2)

    def test_types(self):
        six, seven = "[[[[[[int]]]]]]", "[[[[[[[int]]]]]]]"
        for text in ("fn f(): int { do await act a(b): %; }", "fn f(): int { do await signal a: %; }",
                     "fn f(a: %): int { }", "fn f(): % { }", "fn f(): int { do [%:]; }"):
            start = text.index("%")
            many = 5 if "[%" in text else 6
            for told in range(8):
                wrong = text.replace("%", "[" * told + "int" + "]" * told)
                self.check_wrong_program(wrong, None if told <= many else start + many)
        self.check("await signal a: " + six, ("await", "signal", "a", read_expression("await signal a: " + six)[3]))
        self.check_wrong("[" + six + ":]", 6)
        self.check_wrong("await signal a: " + seven, 22)

    def test_inside(self):
        self.check("(" * 30 + "a" + ")" * 30, A)
        self.check_wrong("(" * 31 + "a" + ")" * 31, 30)
        self.check("- " * 10 + "(" * 20 + "a" + ")" * 20, read_expression("- " * 10 + "a"))
        for front in ("-", "not"):
            text = (front + " ") * 30
            self.check_wrong("(" + text + "a)", len(text) - len(front))
        for opening, closing, at in (
                ("(", ")", 0), ("f(", ")", 1), ("size(", ")", 4), ("text(", ")", 4), ("random(", ")", 6),
                ("a[", "]", 1), ("[int: ", "]", 0), ("await timer(", ")", 11), ("await act f(", "): int", 11),
                ("await flow f(", ")", 12), ("- ", "", 0), ("not ", "", 0)):
            full = "(" * 29 + opening
            self.check_wrong(full + "a" + closing + ")" * 29, None)
            full = "(" * 30 + opening
            self.check_wrong(full + "a" + closing + ")" * 30, 30 + at)
            if closing and opening[0] not in "([":
                self.check_wrong("(" * 30 + opening.strip() + closing, 30 + at)
        self.check_wrong("(" * 30 + "[int:]" + ")" * 30, 30)
        self.check_wrong("(" * 30 + "f()" + ")" * 30, 31)
        self.check_wrong("(" * 29 + "[[[int]]: (a)]" + ")" * 29, 29 + 10)
        self.check_wrong("(" * 30 + "await act a", 30 + 11)

    def test_inside_ends(self):
        for opened in ("(a)", "-a", "a[1]", "f(a)", "f()", "f(a, a)", "[int: a]", "[int:]", "size(a)", "not a"):
            self.check_wrong(opened + " & " + "(" * 30 + "a" + ")" * 30, None)
            self.check_wrong(opened + " & " + "(" * 31 + "a" + ")" * 31, len(opened) + 33)
            self.check_wrong("(" * 29 + opened + " & - - a", 29 + len(opened) + 5)
        many = " + ".join(["(-(a))"] * 12)
        self.check_wrong(many, None)
        self.check_wrong("(" * 29 + "-a + -a" + ")" * 29, None)
        self.check_wrong("(" * 28 + "-a[-1] + -a" + ")" * 28, 28 + 3)
        self.check_wrong("(" * 27 + "-a[-1] + -a" + ")" * 27, None)
        self.check_wrong("(" * 29 + "a[1][1] + f(a)(b)" + ")" * 29, 29 + 14)

    def test_depth_of_sums(self):
        self.check_wrong(summed(30), None)
        self.check_wrong(summed(31), 4 * 30 - 2)
        self.check_wrong(summed(40), 4 * 30 - 2)
        self.check_wrong(summed(31) + " * a", 4 * 30 - 2)
        self.check_wrong("(" + summed(31) + " fn", 1 + 4 * 30 - 2)
        self.check_wrong("(" + summed(30) + ") * a", len(summed(30)) + 3)
        self.check_wrong("a * (" + summed(30) + ")", 2)
        self.check_wrong("a * (" + summed(31) + ")", 5 + 4 * 30 - 2)
        self.check_wrong("(" + summed(30) + ") < a < b", 4 * 30)

    def test_parts_without_parts(self):
        for part in ("1", '""', "true", "false", "nothing", "now", "a", "f()", "[int:]", "await flow f()",
                     "await signal a: [[int]]", "(a)"):
            self.check_wrong(" * ".join([part] * 30), None)
            self.check_wrong(" * ".join([part] * 31), (len(part) + 3) * 30 - 2)

    def test_depth_of_each_row(self):
        deep = summed(30)
        for start, end, at in (
                ("-(", ")", 0), ("not (", ")", 0), ("size(", ")", 0), (" text(", ")", 1), ("random(", ")", 0),
                ("f(", ")", 0), ("f(a, ", ", a)", 0), (" [int: ", "]", 1), ("[int: a, ", "]", 0),
                ("await act f(", "): int", 0), ("await timer(", ")", 0), (" await flow f(a, ", ")", 1), ("a[", "]", 1),
                ("(a)[", "]", 3), ("(", ") = a", len(deep) + 3), ("b & (", ")", 2), ("b or ", "", 2)):
            text = start + deep + end
            self.check_wrong(text, at)
            self.check_wrong(start + summed(29) + end, None)
        self.check_wrong("(" + deep + ")[1]", len(deep) + 2)
        self.check_wrong("-(" + deep + "", len(deep) + 2)
        self.check_wrong("await act f(" + deep + ") int", len(deep) + 14)

    def test_depth_of_signs_in_front(self):
        self.check_wrong("-" * 29 + "a", None)
        self.check_wrong("-" * 30 + "a", 0)
        self.check_wrong("-" * 29 + "a[1]", 0)
        self.check_wrong("-" * 30 + "a[1]", 31)
        self.check_wrong("a + " + "-" * 29 + "a", 2)

    def test_a_part_is_told_before_what_it_stands_in(self):
        self.check_wrong("f(size(" + summed(30) + "))", 2)
        self.check_wrong("1 + -(" + summed(31) + ")", 6 + 4 * 30 - 2)
        self.check_wrong("a[" + summed(30) + "][1]", 1)

    def test_depth_in_programs(self):
        head = "fn f(): int { return "
        self.check_wrong_program(head + summed(30) + "; }", None)
        self.check_wrong_program(head + summed(31) + "; }", len(head) + 4 * 30 - 2)
        self.check_wrong_program(head + summed(31) + " }", len(head) + 4 * 30 - 2)
        self.check_wrong_program(head + summed(30) + " }", len(head) + len(summed(30)) + 1)


RULES = """
program = fn | fn program
fn = "fn" N "(" params ")" ":" kind body
params = | param moreparams
moreparams = | "," param moreparams
param = N ":" kind
kind = "int" | "bool" | "text" | "nothing" | "[" kind "]"
body = "{" rows "}"
rows = | row rows
row = "let" N "=" e ";" | "set" N "=" e ";" | "return" e ";" | "do" e ";" | "fail" e ";"
row = "if" e body | "if" e body "else" body | "while" e body | "try" body "catch" N body
e = e "or" e2 | e2
e2 = e2 "and" e3 | e3
e3 = e4 | e4 "=" e4 | e4 "!=" e4 | e4 "<" e4 | e4 "<=" e4
e4 = e4 "&" e5 | e5
e5 = e5 "+" e6 | e5 "-" e6 | e6
e6 = e6 "*" e7 | e6 "/" e7 | e7
e7 = "not" e7 | "-" e7 | e8
e8 = e8 "[" e "]" | D | S | "true" | "false" | "nothing" | N | "now" | "(" e ")" | N "(" es ")"
e8 = "size" "(" e ")" | "text" "(" e ")" | "random" "(" e ")" | "[" kind ":" es "]"
e8 = "await" "act" N "(" e ")" ":" kind | "await" "timer" "(" e ")" | "await" "signal" N ":" kind
e8 = "await" "flow" N "(" es ")"
es = | e morees
morees = | "," e morees
"""


def rules():
    table = {}
    for line in RULES.strip().splitlines():
        name, rows = line.split(" = ", 1) if not line.startswith("e3") else ("e3", line[5:])
        table.setdefault(name.strip(), []).extend(tuple(row.split()) for row in rows.split("|"))
    return table


def words_in(text):
    """The kinds of the words of a text with their places, up to a fault or the end, told otherwise than in the package."""
    found = []
    at = 0
    while True:
        at = re.compile(r"(?:[ \n]|#[^\n]*)*").match(text, at).end()
        if at == len(text):
            return found + [(None, at)]
        told = re.compile(r'[a-z]+|[0-9]+|"(?:[^"\n]|"")*"(?!")|!=|<=|[-(){}\[\],;:+*/&=<]').match(text, at)
        word = told.group() if told else ""
        if word in RESERVED or word and not word[0].isalnum() and word[0] != '"':
            kind = '"' + word + '"'
        elif word[:1].isalpha() and len(word) <= 8:
            kind = "N"
        elif word.isdigit() and str(int(word)) == word and int(word) <= 10 ** 12:
            kind = "D"
        elif word[:1] == '"' and len(word[1:-1].replace('""', '"')) <= 60:
            kind = "S"
        else:
            return found + [("fault", at)]
        found.append((kind, at))
        at = told.end()


class Earley:
    """Tells by the rules alone at which word no text of the language goes on."""

    def __init__(self):
        self.table = rules()
        self.empty = {name for name in self.table if () in self.table[name]}

    def place(self, text, start):
        words = words_in(text)
        columns = [self.closed([(start, row, 0, 0) for row in self.table[start]], [], 0)]
        for k, (kind, at) in enumerate(words):
            if kind is None:
                ended = any(name == start and dot == len(row) and since == 0
                            for name, row, dot, since in columns[-1])
                return None if ended else at
            moved = [(name, row, dot + 1, since) for name, row, dot, since in columns[-1]
                     if dot < len(row) and row[dot] == kind]
            if not moved:
                return at
            columns.append(self.closed(moved, columns, k + 1))

    def closed(self, items, columns, here):
        column = dict.fromkeys(items)
        waiting = list(items)
        while waiting:
            name, row, dot, since = waiting.pop()
            if dot == len(row):
                source = column if since == here else columns[since]
                fresh = [(n, r, d + 1, s) for n, r, d, s in source if d < len(r) and r[d] == name]
            elif row[dot] in self.table:
                fresh = [(row[dot], other, 0, here) for other in self.table[row[dot]]]
                if row[dot] in self.empty:
                    fresh.append((name, row, dot + 1, since))
            else:
                continue
            for item in fresh:
                if item not in column:
                    column[item] = None
                    waiting.append(item)
        return column


class TestWhole(Case):
    def test_random_programs(self):
        for seed in range(300):
            rng = random.Random(seed)
            program = Maker(rng).program()
            text, _ = spaced(program_words(program, rng), rng)
            self.assertEqual(read_program(text), program)
            text, _ = spaced(program_words(program))
            self.assertEqual(read_program(text), program)

    def test_cut_off_behind_every_word(self):
        program = ('fn f(a: [int], b: text): int { let x = [text: "a", b & text(a[0])]; if a[0] <= -1 and not true '
                   '{ return g(1, nothing) - 2 * 3; } else { try { do await act pay(x): [int]; } catch c { fail c; } } '
                   'while size(x) != 0 or false { set x = [text:]; do await timer(random(now)); } '
                   'return await flow g(1, await signal go: nothing); } fn g(a: int, b: nothing): int { return 0; }')
        words = re.findall(r'[a-z]+|[0-9]+|"[^"]*"|!=|<=|\S', program)
        read_program(program)
        for k in range(len(words)):
            if words[:k] and words[k - 1] == "}" and words[k] == "fn":
                continue
            text = " ".join(words[:k])
            self.check_wrong_program(text, len(text))
            self.check_wrong_program(text + " # x\n ", len(text) + 6)

    def test_changed_words(self):
        earley = Earley()
        more = RESERVED + '( ) { } [ ] , ; : + - * / & = < != <= a f 0 7 "x" "" @ A 01 abcdefghi " > !'.split()
        self.assertEqual(earley.place("fn f(): int { return 1; }", "program"), None)
        for seed in range(400):
            rng = random.Random(seed)
            maker = Maker(rng)
            program = maker.program()
            is_program = seed % 3 > 0
            words = program_words(program[:2], rng) if is_program else tree_words(
                maker.tree(rng.choice(["int", "bool", "text"]), {"a": "int", "b": "bool"}, 4), rng)
            if len(words) > 250:
                continue
            for _ in range(rng.choice([1, 1, 2])):
                at = rng.randrange(len(words) + 1)
                words[at:at + rng.choice([0, 1, 1, 2])] = rng.choice([[], [rng.choice(more)], [rng.choice(more)]])
            text, _ = spaced(words, rng)
            wanted = earley.place(text, "program" if is_program else "e")
            self.assertEqual(place_told(read_program if is_program else read_expression, text), wanted, text)


if __name__ == "__main__":
    unittest.main()
