import random
import unittest

from flowreprise.printing import show_program
from flowreprise.trees import read_expression, read_program
from tests.helper import AnyMaker, Maker, check_untouched, program_words, spaced
from tests.test_trees import Earley, place_told, summed

PROGRAM = read_program("""
    fn f(a: [int], b: text): int {
      let x = [text: "a#", b & text(a[0])];
      if a[0] <= -1 and not true { return g(1, nothing) - 2 * 3; } else {
        try { do await act pay(x): [int]; } catch c { fail c; } }
      while size(x) != 0 or false { set x = [text:]; do await timer(random(now)); }
      return await flow g(1, await signal go: nothing);
    }
    fn g(a: int, b: nothing): int { return 0 / a; }""")
WORDS = program_words(PROGRAM)
FAULTS = (
    *"!@>$'?.^_`|~%\\", "A", "Z", "abcdefghi", "returning", "x" * 500, "1000000000001", "9" * 500, "00", "01", "007",
    '"abc\n', '"\n', '"a""\n', '"' + "a" * 61 + '"', '"' + '""' * 61 + '"')


class Case(unittest.TestCase):
    def check(self, text, at):
        self.assertEqual(place_told(read_program, text), at, text[:200])

    def check_tree(self, text, at):
        self.assertEqual(place_told(read_expression, text), at, text[:200])


class TestBetweenWords(Case):
    def test_anything_between_words(self):
        self.assertEqual(read_program(" ".join(WORDS)), PROGRAM)
        for between in (" ", "\n", "   ", "\n\n", " \n ", "#\n", " # @ abcdefghi 01 \"\n", "#fn f(\n#\n", "# #\n "):
            text = between + between.join(WORDS) + between
            self.assertEqual(check_untouched(self, read_program, text), PROGRAM)
            self.assertEqual(read_program(between.join(WORDS)), PROGRAM)
        self.assertEqual(read_program("# at the beginning\n" + " ".join(WORDS) + "# at the end"), PROGRAM)
        self.assertEqual(read_program(" ".join(WORDS) + "#"), PROGRAM)

    def test_one_place_alone(self):
        for k in range(len(WORDS) + 1):
            for between in ("# fn @\n", "\n", "     "):
                words = [*WORDS[:k], between, *WORDS[k:]]
                self.assertEqual(read_program(" ".join(words)), PROGRAM)

    def test_words_beside_each_other(self):
        text = ""
        for word in WORDS:
            # Letters and digits are words of their own, but texts and signs may come together to another one.
            both = text[-1:] + word[0]
            text += (" " if both.isalpha() or both.isdigit() or both in ("<=", "!=", '""') else "") + word
        self.assertEqual(read_program(text), PROGRAM)
        self.assertIn("act pay(x):[int];}catch c{fail c;}}while size(x)!=0or false{set x=[text:];", text)

    def test_letters_and_digits(self):
        self.assertEqual(read_expression("1or 2and 3"), read_expression("1 or (2 and 3)"))
        self.assertEqual(read_expression("size(a)or now"), read_expression("size(a) or now"))
        self.check_tree("1a", 1)
        self.check_tree("a1", 1)
        self.check_tree("or1", 0)
        self.check_tree("12 13", 3)

    def test_signs(self):
        for text, same in (("a<=b", "a <= b"), ("a!=b", "a != b"), ("a=-b", "a = -b"), ("a--b", "a - -b")):
            self.assertEqual(read_expression(text), read_expression(same))
        for text, at in (("a<==b", 3), ("a<=<b", 3), ("a!==b", 3), ("a<>b", 2), ("a=!b", 2), ("a = = b", 4), ("!a", 0)):
            self.check_tree(text, at)

    def test_random_programs(self):
        for seed in range(250):
            rng = random.Random(seed)
            program = (Maker if seed % 2 else AnyMaker)(rng).program()
            text, _ = spaced(program_words(program, rng), rng)
            self.assertEqual(check_untouched(self, read_program, text), program)


class TestFaults(Case):
    def test_each_word_that_is_none_at_each_place(self):
        for k in range(len(WORDS) + 1):
            before = " ".join(WORDS[:k]) + " "
            for word in FAULTS:
                self.check(before + word + " " + " ".join(WORDS[k:]), len(before))

    def test_a_later_fault_is_not_told(self):
        for seed in range(300):
            rng = random.Random(seed)
            first, last = sorted([rng.randrange(len(WORDS) + 1), rng.randrange(len(WORDS) + 1)])
            words = [*WORDS[:first], rng.choice(FAULTS), *WORDS[first:last], rng.choice(FAULTS), *WORDS[last:]]
            self.check(" ".join(words), len(" ".join(WORDS[:first])) + (first > 0))

    def test_a_fault_behind_a_word_that_cannot_stand_there(self):
        self.check("fn f() @", 7)
        self.check("fn f( @", 6)
        self.check("fn f fn @", 5)
        self.check("@ fn", 0)
        self.check("fn f(): int { } } @", 16)
        self.check("fn f(): int { } @", 16)

    def test_fn_in_a_function(self):
        for k in range(1, len(WORDS) + 1):
            before = " ".join(WORDS[:k]) + " "
            text = before + "fn " + " ".join(WORDS[k:])
            if WORDS[k:] == []:
                self.check(text, len(text))
            elif WORDS[k] == "fn":
                self.check(text, len(before) + 3)
            else:
                self.check(text, len(before))
        self.check("fn " + " ".join(WORDS), 3)

    def test_other_characters_at_the_ends(self):
        for text, at in (("a@", 1), ("@a", 0), ("a b", 2), ("ab@c", 2), ('"a"b', 3), ("1.5", 1), ("a_b", 1), ("aB", 1)):
            self.check_tree(text, at)

    def test_unended_texts(self):
        for text, at in (
                ('"', 0), ('"a', 0), ('"a\n"', 0), ('a & "b\n" & "c"', 4), ('"a" & "b', 6), ('"a""', 0), ('"#', 0),
                ('"a" "', 4), ('"' + "a" * 60, 0), ('"' + "a" * 61, 0), ('""""', None), ('"""', 0)):
            self.check_tree(text, at)


class TestBeginnings(Case):
    def test_cut_off_behind_each_word(self):
        for k in range(len(WORDS)):
            text = " ".join(WORDS[:k])
            wanted = None if WORDS[k] == "fn" and k else len(text)
            self.check(text, wanted)
            self.check(text + " ", None if wanted is None else len(text) + 1)
            self.check(text + "\n# more", None if wanted is None else len(text) + 7)

    def test_every_beginning_of_a_text(self):
        earley = Earley()
        text = ('fn f(abc: [int]): text { if abc[0] <= -10 { try { let x = "a""b" & text(1); } catch no { fail no; } }\n'
                '# "x" @\nreturn await act pay(f([int: 1])): text; } fn go(): bool { return not true; }')
        for cut in range(len(text) + 1):
            self.check(text[:cut], earley.place(text[:cut], "program"))
        # Each beginning of what is written, too.
        text = show_program(read_program(text))
        for cut in range(0, len(text) + 1, 3):
            self.check(text[:cut], earley.place(text[:cut], "program"))


# Statements in which one thing is too much, and where this stands in them.
TOO_MUCH = [
    ("do f(" + "a, " * 8 + "b);", 5 + 24), ("do [int: " + "a, " * 20 + "b];", 9 + 60),
    ("do await flow f(" + "a, " * 8 + "b);", 16 + 24), ("do " + "(" * 31 + "a" + ")" * 31 + ";", 3 + 30),
    ("do " + "- " * 31 + "a;", 3 + 60), ("do " + summed(31) + ";", 3 + 4 * 30 - 2), ("do [" + "[" * 6 + "int" + "]" * 6 + ":];", 9),
    ("do await signal a: " + "[" * 7 + "int" + "]" * 7 + ";", 19 + 6),
    ("while a { " + "do a; " * 50 + "do b; }", 10 + 300), ("if a { } else { " + "do a; " * 50 + "do b; }", 16 + 300),
    ("while a { " * 10 + "}" * 10, 90 + 8), ("try { " * 10 + "} catch c { }" * 10, 54 + 4)]


class TestBounds(Case):
    def test_each_alone(self):
        head = "fn f(): int { "
        for text, at in TOO_MUCH:
            self.check(head + text + " }", len(head) + at)

    def test_several_in_one_text(self):
        head = "fn f(): int { "
        for one, at in TOO_MUCH:
            for other, _ in TOO_MUCH:
                self.check(head + one + " " + other + " }", len(head) + at)
            many = "fn f(): int { " + "do a; " * 50
            self.check(many + one + " }", len(many))
            params = "fn f(" + "a: int, " * 8 + "b: int): int { "
            self.check(params + one + " }", 5 + 64)
            functions = "fn f(): int { } " * 19 + "fn f(): int { " + one + " } fn f(): int { }"
            self.check(functions, 16 * 19 + 14 + at)

    def test_several_in_one_expression(self):
        nine, items, deep = "f(" + "a, " * 8, "[int: " + "a, " * 20, summed(31)
        # The tree of 31 parts is too deep by its last sign.
        last = 4 * 30 - 2
        for text, at in (
                (nine + "(" * 30, len(nine)), (nine + deep + ")", len(nine)), (items + nine + "b)]", len(items)),
                ("f(" + deep + ", " + "a, " * 8 + "a)", 2 + last), ("f(" + "a, " * 7 + deep + ", a)", 2 + 21 + last),
                ("(" * 30 + nine + "a)", 30 + 1), ("(" * 29 + nine + "a)", 29 + len(nine)),
                # A tree is too deep when it has been read, before what stands behind it.
                (deep + " @", last), (deep + " or a", last), (deep + " + " + "(" * 31, last),
                ("-(" + summed(30) + ") + " + "(" * 31, 0), ("(" + deep + " a", 1 + last),
                # Here what is open is too much before the tree has been read.
                (summed(30) + " * a[(" + "(" * 30, len(summed(30)) + 5 + 29),
                ("(" + summed(30) + ") + -(" + "(" * 31, len(summed(30)) + 7 + 28)):
            self.check_tree(text, at)

    def test_just_within_all_at_once(self):
        deep = "(" * 29 + "[int: " + ", ".join(["a"] * 20) + "]" + ")" * 29
        body = "do " + summed(30) + "; do " + deep + "; do f(" + ", ".join(["a"] * 8) + "); " + "do a;" * 46
        text = "fn f(" + ", ".join(["abcdefgh: [[[[[[int]]]]]]"] * 8) + "): [[[[[[text]]]]]] { "
        text += body + "while a { " * 9 + "do a;" * 50 + "}" * 9 + " } "
        text = text + "fn f(): int { } " * 19
        self.assertEqual(len(read_program(text)), 20)
        self.assertEqual(read_program(show_program(read_program(text))), read_program(text))
        self.check(text + "fn", len(text))


if __name__ == "__main__":
    unittest.main()
