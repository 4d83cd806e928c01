import random
import re
import unittest

from flowreprise.errors import FlowError, FormError
from flowreprise.forms import decode, encode
from tests.helper import check_untouched


def data_of(rng, depth=3):
    word = rng.randrange(8 if depth else 5)
    if word < 3:
        return (None, True, False)[word]
    if word == 3:
        return rng.choice([0, 1, -1, 42, 10 ** 16 - 1, 1 - 10 ** 16, rng.randrange(-10 ** 6, 10 ** 6)])
    if word == 4:
        return "".join(rng.choice('az ~:;()[]"\nti0') for _ in range(rng.choice([0, 1, 3, 12])))
    items = [data_of(rng, depth - 1) for _ in range(rng.randrange(4))]
    return items if word == 5 else tuple(items)


def same(one, other):
    """Whether data are the same, with truths and integers, lists and tuples told apart."""
    if type(one) is not type(other):
        return False
    if isinstance(one, (list, tuple)):
        return len(one) == len(other) and all(same(a, b) for a, b in zip(one, other))
    return one == other


NUMBER = re.compile(r"(0|-?[1-9][0-9]{0,15});")
SIZE = re.compile(r"(0|[1-9][0-9]*):")
SIGNS = "zyni-0;t1:()[]"


class Fault(Exception):
    """The index at which a text is not the written form of data."""


def read_by_words(text, at):
    """The data of the form at a place of a text and the place behind it, by the words of point 73."""
    letter = text[at:at + 1]
    if letter in ("z", "y", "n"):
        return {"z": None, "y": True, "n": False}[letter], at + 1
    if letter == "i" and NUMBER.match(text, at + 1):
        told = NUMBER.match(text, at + 1)
        return int(told.group(1)), told.end()
    if letter == "t" and SIZE.match(text, at + 1):
        told = SIZE.match(text, at + 1)
        end = told.end() + int(told.group(1))
        if end <= len(text):
            return text[told.end():end], end
    if letter in ("i", "t"):
        raise Fault(at + 1)
    if letter not in ("(", "["):
        raise Fault(at)
    items, at = [], at + 1
    while text[at:at + 1] != {"(": ")", "[": "]"}[letter]:
        item, at = read_by_words(text, at)
        items.append(item)
    return (tuple(items) if letter == "(" else items), at + 1


def told_by_words(text):
    """The data of a text, or the fault in it."""
    try:
        data, behind = read_by_words(text, 0)
        if behind < len(text):
            raise Fault(behind)
        return ("data", data)
    except Fault as fault:
        return ("fault", fault.args[0])


def turns_of(text):
    """A text with each character turned, left out, put in twice, and each beginning of it."""
    for at in range(len(text)):
        for letter in SIGNS + "2x~":
            yield text[:at] + letter + text[at + 1:]
            yield text[:at] + letter + text[at:]
        yield text[:at] + text[at + 1:]
        yield text[:at] + text[at] + text[at:]
        yield text[:at]


class TestForms(unittest.TestCase):
    def fault(self, text):
        with self.assertRaises(FormError) as caught:
            decode(text)
        self.assertIsInstance(caught.exception, FlowError)
        return caught.exception.at

    def test_example(self):
        self.assertEqual(
            (encode(("a", [-3, None, True], "")), decode("[i7;t2:()]")), ("(t1:a[i-3;zy]t0:)", [7, "()"]))

    def test_written_forms(self):
        for data, text in (
                (None, "z"), (True, "y"), (False, "n"), (0, "i0;"), (1, "i1;"), (-20, "i-20;"),
                (10 ** 16 - 1, "i9999999999999999;"), ("", "t0:"), ("a:b", "t3:a:b"), ("x" * 12, "t12:" + "x" * 12),
                ((), "()"), ([], "[]"), (("int", 5), "(t3:inti5;)"), ([(), [[]]], "[()[[]]]"), ("\n", "t1:\n")):
            self.assertEqual(check_untouched(self, encode, data), text)
            self.assertTrue(same(decode(text), data))

    def test_faults(self):
        for text, at in (
                ("", 0), ("x", 0), ("zz", 1), ("z ", 1), (" z", 0), (")", 0), ("(", 1), ("(]", 1), ("[)", 1), ("[z", 2),
                ("(zx)", 2), ("((z)", 4), ("()()", 2), ("i", 1), ("i;", 1), ("i-;", 1), ("i-0;", 1), ("i01;", 1), ("i5", 1),
                ("i5:", 1), ("i00;", 1), ("i-05;", 1), ("i+5;", 1), ("i12345678901234567;", 1), ("i5;;", 3), ("t", 1),
                ("t:", 1), ("t1:", 1), ("t-1:", 1), ("t-0:", 1), ("t01:a", 1), ("t2:a", 1), ("t1;a", 1), ("t1:ab", 4),
                ("(t5:abc)", 2), ("(zi)", 3), ("(t1:a", 5), ("t99999999999999999999:a", 1), ("i" + "1" * 9000 + ";", 1)):
            self.assertEqual(self.fault(text), at, text)

    def check_any(self, text):
        """Checks what is read from a text that may be no written form."""
        word, told = told_by_words(text)
        if word == "fault":
            self.assertEqual(self.fault(text), told, text)
        else:
            data = check_untouched(self, decode, text)
            self.assertTrue(same(data, told), text)
            self.assertEqual(encode(data), text)

    def test_each_kind_alone_and_in_others(self):
        kinds = [None, True, False, 0, 1, -1, 10 ** 15, 10 ** 16 - 1, 1 - 10 ** 16, "", "a", "(i1;)", "t3:abc", "z", SIGNS,
                 "".join(chr(k) for k in range(32, 127)), "a\nb", (), [], ("a", 5), ["a", [None]]]
        for data in kinds:
            for whole in (data, (data,), [data], (data, data), [data, (data, [data])], ("x", data, [])):
                text = check_untouched(self, encode, whole)
                self.assertTrue(same(check_untouched(self, decode, text), whole))
                self.assertTrue(same(told_by_words(text)[1], whole))
        for one in kinds:
            for other in kinds:
                self.assertTrue(same(decode(encode([one, (other,), one])), [one, (other,), one]))

    def test_forms_of_data_are_told_apart(self):
        rows = [None, True, False, 0, 1, "", "z", "0", "i0;", (), [], (None,), [None], ((),), ([],), [()], (0,), [0], ("",)]
        self.assertEqual(len({encode(data) for data in rows}), len(rows))

    def test_turned_forms(self):
        for data in (None, True, 7, -30, 10 ** 16 - 1, 1 - 10 ** 16, "", "ab", "i1;", "t1:a", (), [], (None, 0), [["z"], ()],
                     ("a", [-3, None, True], ""), ("begin", 1, "main", [("int", 5), ("list", ())], None)):
            text = encode(data)
            for other in turns_of(text):
                self.check_any(other)
                self.check_any(other + ")")

    def test_random_texts(self):
        for seed in range(4000):
            rng = random.Random(seed)
            self.check_any("".join(rng.choice(SIGNS) for _ in range(rng.randrange(12))))
        for seed in range(300):
            rng = random.Random(seed)
            text = encode(data_of(rng))
            for _ in range(4):
                at = rng.randrange(len(text) + 1)
                text = text[:at] + rng.choice(["", rng.choice(SIGNS)]) + text[at + rng.choice([0, 1]):]
                self.check_any(text)

    def test_deep(self):
        data = None
        for k in range(5000):
            data = (data,) if k % 2 else [data]
        text = encode(data)
        self.assertEqual(text, "([" * 2500 + "z" + "])" * 2500)
        self.assertEqual(encode(decode(text)), text)
        self.assertEqual(self.fault("(" * 5000), 5000)

    def test_random(self):
        for seed in range(400):
            data = data_of(random.Random(seed))
            text = check_untouched(self, encode, data)
            self.assertTrue(same(check_untouched(self, decode, text), data))
            for cut in range(len(text)):
                self.assertRaises(FormError, decode, text[:cut])
            self.assertEqual(self.fault(text + "z"), len(text))


if __name__ == "__main__":
    unittest.main()
