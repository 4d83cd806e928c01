import random
import unittest

from flowreprise.errors import WrittenError
from flowreprise.values import fits, is_value, read_typed, read_value, show_value
from tests.helper import KINDS, random_value

SIMPLE = ("int", "bool", "text", "nothing")
ALL = [(word, depth) for word in SIMPLE for depth in range(7)]


def deep(word, depth):
    for _ in range(depth):
        word = ("list", word)
    return word


class Forms:
    """Goes through a text with all forms that it may still become, each a tuple of what must come."""

    def __init__(self, kinds):
        self.now = {(("value", kind),) for kind in kinds}

    def expanded(self, head):
        word = head[0]
        if word == "value" and head[1] == "int":
            first, more = ("some", "123456789"), ("digits", 11)
            great = self.word("1000000000000")
            return [self.word("0"), (first, more), great, (*self.word("-"), first, more), (*self.word("-"), *great)]
        if word == "value" and head[1] == "bool":
            return [self.word("true"), self.word("false")]
        if word == "value" and head[1] == "nothing":
            return [self.word("nothing")]
        if word == "value" and head[1] == "text":
            return [(*self.word('"'), ("letters", 60))]
        if word == "value":
            inner = ("value", head[1][1])
            return [self.word("[]"), (*self.word("["), inner, ("items", inner, 19))]
        if word == "digits":
            return [()] + ([(("some", "0123456789"), ("digits", head[1] - 1))] if head[1] else [])
        if word == "letters":
            plain = ("some", "".join(chr(k) for k in range(32, 127) if chr(k) != '"'))
            rest = ("letters", head[1] - 1)
            return [self.word('"')] + ([(plain, rest), (*self.word('""'), rest)] if head[1] else [])
        rest = [(*self.word(", "), head[1], ("items", head[1], head[2] - 1))] if head[2] else []
        return [self.word("]")] + rest

    def word(self, text):
        return tuple(("some", letter) for letter in text)

    def opened(self):
        """All that may come, where the first thing is one of some letters, or nothing more."""
        done, waiting = set(), list(self.now)
        while waiting:
            form = waiting.pop()
            if not form or form[0][0] == "some":
                done.add(form)
            else:
                waiting += [(*start, *form[1:]) for start in self.expanded(form[0])]
        return done

    def read(self, letter):
        self.now = {form[1:] for form in self.opened() if form and letter in form[0][1]}
        return bool(self.now)


def length_read(text, kinds):
    """The length of the longest beginning that some form has, or None if the text is a form."""
    forms = Forms(kinds)
    for at, letter in enumerate(text):
        if not forms.read(letter):
            return at
    return None if () in forms.opened() else len(text)


def told_length(function, *arguments):
    try:
        function(*arguments)
    except WrittenError as error:
        return error.at
    return None


class TestExamples(unittest.TestCase):
    def test_example(self):
        with self.assertRaises(WrittenError) as told:
            read_typed("[1, true]", ("list", "int"))
        self.assertEqual(told.exception.at, 4)


class TestRead(unittest.TestCase):
    def check(self, text, at):
        self.assertEqual(told_length(read_value, text), at, text)

    def check_value(self, text, value):
        self.assertEqual(read_value(text), value)
        self.assertEqual(show_value(value), text)

    def test_numbers(self):
        for n in (0, 7, -7, 10, 10 ** 12, -10 ** 12, 999999999999):
            self.check_value(str(n), ("int", n))
        for text, at in (("", 0), ("-", 1), ("-0", 1), ("-00", 1), ("00", 1), ("01", 1), ("+1", 0), ("1 ", 1), (" 1", 0),
                         ("1000000000001", 12), ("10000000000000", 13), ("-1000000000001", 13), ("2000000000000", 12),
                         ("9999999999999", 12), ("1" * 5000, 12), ("--1", 1), ("1-", 1), ("1a", 1), ("\u0661", 0)):
            self.check(text, at)

    def test_words(self):
        self.check_value("true", ("bool", True))
        self.check_value("false", ("bool", False))
        self.check_value("nothing", ("nothing",))
        for text, at in (("t", 1), ("tru", 3), ("trues", 4), ("tale", 1), ("falsE", 4), ("not", 3), ("nothin ", 6),
                         ("True", 0), ("x", 0)):
            self.check(text, at)

    def test_texts(self):
        self.check_value('""', ("text", ""))
        self.check_value('"a b"', ("text", "a b"))
        self.check_value('"a""b"', ("text", 'a"b'))
        self.check_value('"' + '""' * 60 + '"', ("text", '"' * 60))
        self.check_value('"' + "a" * 58 + '""~"', ("text", "a" * 58 + '"~'))
        for text, at in (('"', 1), ('"a', 2), ('"a""', 4), ('"a"b', 3), ('"' + "a" * 60, 61), ('"' + "a" * 61, 61),
                         ('"' + "a" * 60 + '""', 62), ('"' + "a" * 59 + '""""', 63), ('"' + '""' * 61 + '"', 122),
                         ('"a\n"', 2), ('"\u00e4"', 1), ('"\x7f"', 1)):
            self.check(text, at)

    def test_lists(self):
        one, empty = ("int", 1), ("list", ())
        self.check_value("[]", empty)
        self.check_value("[[], [1], []]", ("list", (empty, ("list", (one,)), empty)))
        self.check_value("[[[]], [], [[1]]]", ("list", (("list", (empty,)), empty, ("list", (("list", (one,)),)))))
        for text, at in (("[", 1), ("[1", 2), ("[1,", 3), ("[1, ", 4), ("[1, ]", 4), ("[1,2]", 3), ("[1 ,2]", 2),
                         ("[,]", 1), ("[ ]", 1), ("[]]", 2), ("[] ", 2), ("[1,  2]", 4), ("[1, true]", 4),
                         ("[[], 1]", 5), ("[1, []]", 4), ("[[1], [true]]", 7), ("[[], [1], [\"\"]]", 11),
                         ("[[[]], [1]]", 8), ("[[1], [[]]]", 7), ("[[[1], []], [[true]]]", 14), ("]", 0)):
            self.check(text, at)

    def test_bounds_of_lists(self):
        twenty = "[" + ", ".join(["1"] * 20)
        self.check_value(twenty + "]", ("list", (("int", 1),) * 20))
        self.check(twenty + ", 1]", len(twenty))
        self.check("[" + ", ".join(["[]"] * 21) + "]", 1 + 20 * 4 - 2)
        for inner in ("", "1", "true", '"a"'):
            self.assertEqual(show_value(read_value("[" * 6 + inner + "]" * 6)), "[" * 6 + inner + "]" * 6)
            self.check("[" * 7 + inner + "]" * 7, 6)
        self.check("[[[[[[], [1], [[", 15)
        self.check("[" * 400, 6)

    def test_cut_off_and_wrong_behind_every_character(self):
        rng = random.Random(1)
        texts = ["[[1, -20], [], [0]]", '["a""", "", "[1, "]', "[[[true]], [], [[], [false, true]]]",
                 "[nothing, nothing]", "[[[[[[-1000000000000]]]]]]"]
        texts += [show_value(random_value(rng, kind)) for kind in KINDS for _ in range(3)]
        for text in texts:
            self.assertIsNone(told_length(read_value, text))
            kinds = [deep(*told) for told in ALL]
            for at in range(len(text)):
                self.check(text[:at], length_read(text[:at], kinds))
                for letter in ("\n", "x", "1", "]", ",", '"', "\u00e9"):
                    wrong = text[:at] + letter + text[at:]
                    self.check(wrong, length_read(wrong, kinds))


class TestTyped(unittest.TestCase):
    def test_values_of_the_type_and_of_others(self):
        rng = random.Random(2)
        for _ in range(300):
            kind = rng.choice(KINDS)
            value = random_value(rng, kind)
            text = show_value(value)
            self.assertEqual(read_value(text), value)
            for other in KINDS:
                if fits(value, other):
                    self.assertEqual(read_typed(text, other), value)
                else:
                    self.assertEqual(told_length(read_typed, text, other), length_read(text, [other]))

    def test_cut_off_and_wrong_behind_every_character(self):
        rng = random.Random(7)
        for kind in KINDS:
            for text in [show_value(random_value(rng, kind)) for _ in range(3)]:
                for at in range(len(text) + 1):
                    for wrong in ("", "x", "1", "]", ",", " ", "[", '"', "t"):
                        told = text[:at] + wrong
                        wanted = length_read(told, [kind])
                        self.assertEqual(told_length(read_typed, told, kind), wanted, told)
                        self.assertTrue(wanted is None or wanted >= at)
                for other in KINDS:
                    self.assertEqual(told_length(read_typed, text, other), length_read(text, [other]))

    def test_each_depth(self):
        for word, inner in (("int", "1"), ("bool", "true"), ("text", '"a"'), ("nothing", "nothing")):
            for depth in range(7):
                for many in range(8):
                    for told in ("", inner):
                        text = "[" * many + told + "]" * many
                        kind = deep(word, depth)
                        self.assertEqual(told_length(read_typed, text, kind), length_read(text, [kind]))
            self.assertEqual(told_length(read_typed, "[]", deep(word, 7)), 0)

    def test_wrong_kinds(self):
        for text, kind, at in (
                ("1", "bool", 0), ("true", "int", 0), ("nothing", "text", 0), ('"a"', "nothing", 0), ("[]", "int", 0),
                ("1", ("list", "int"), 0), ("[true]", ("list", "int"), 1), ("[[]]", ("list", "int"), 1),
                ("[1]", ("list", ("list", "int")), 1), ("[[], [1, 2, x", ("list", ("list", "int")), 12),
                ("[", ("list", "int"), 1), ("", "int", 0), ("[1, 2", ("list", "int"), 5), ("fals", "bool", 4),
                ("t", "nothing", 0), ("-", "text", 0)):
            self.assertEqual(told_length(read_typed, text, kind), at, (text, kind))


class TestChanged(unittest.TestCase):
    def changed(self, rng, text):
        for _ in range(rng.randint(1, 3)):
            at = rng.randint(0, len(text))
            word = rng.choice(["put", "leave", "turn", "cut"])
            if word == "put":
                text = text[:at] + rng.choice('[], "0-1tfn~') + text[at:]
            elif word == "leave":
                text = text[:at] + text[at + 1:]
            elif word == "turn":
                text = text[:at] + text[at:at + 2][::-1] + text[at + 2:]
            elif rng.random() < 0.3:
                text = text[:at]
        return text

    def test_changed_texts(self):
        rng = random.Random(3)
        kinds = [deep(*told) for told in ALL]
        for _ in range(1200):
            kind = rng.choice([*KINDS, deep("bool", 5), deep("text", 3)])
            text = show_value(random_value(rng, kind, rng.random() < 0.6))[:160]
            text = self.changed(rng, text)
            at = length_read(text, kinds)
            self.assertEqual(told_length(read_value, text), at, text)
            if at is None:
                self.assertTrue(is_value(read_value(text)))
                self.assertEqual(show_value(read_value(text)), text)
            for wanted in (kind, rng.choice(KINDS)):
                self.assertEqual(told_length(read_typed, text, wanted), length_read(text, [wanted]), text)


if __name__ == "__main__":
    unittest.main()
