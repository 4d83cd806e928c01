import random
import unittest

from flowreprise.errors import FlowError, FormError
from flowreprise.forms import decode, encode
from tests.helper import check_untouched


def data_of(rng, depth=3):
    word = rng.randrange(8 if depth else 5)
    if word < 3:
        return (None, True, False)[word]
    if word == 3:
        return rng.choice([0, 1, -1, 42, 10 ** 16 - 1, 1 - 10 ** 16, rng.randrange(-10 ** 6, 10 ** 6)])
    if word == 4:
        return "".join(rng.choice('az ~:;()[]"\nti0') for _ in range(rng.choice([0, 1, 3, 12])))
    items = [data_of(rng, depth - 1) for _ in range(rng.randrange(4))]
    return items if word == 5 else tuple(items)


def same(one, other):
    """Whether data are the same, with truths and integers, lists and tuples told apart."""
    if type(one) is not type(other):
        return False
    if isinstance(one, (list, tuple)):
        return len(one) == len(other) and all(same(a, b) for a, b in zip(one, other))
    return one == other


class TestForms(unittest.TestCase):
    def fault(self, text):
        with self.assertRaises(FormError) as caught:
            decode(text)
        self.assertIsInstance(caught.exception, FlowError)
        return caught.exception.at

    def test_example(self):
        self.assertEqual(
            (encode(("a", [-3, None, True], "")), decode("[i7;t2:()]")), ("(t1:a[i-3;zy]t0:)", [7, "()"]))

    def test_written_forms(self):
        for data, text in (
                (None, "z"), (True, "y"), (False, "n"), (0, "i0;"), (1, "i1;"), (-20, "i-20;"),
                (10 ** 16 - 1, "i9999999999999999;"), ("", "t0:"), ("a:b", "t3:a:b"), ("x" * 12, "t12:" + "x" * 12),
                ((), "()"), ([], "[]"), (("int", 5), "(t3:inti5;)"), ([(), [[]]], "[()[[]]]"), ("\n", "t1:\n")):
            self.assertEqual(check_untouched(self, encode, data), text)
            self.assertTrue(same(decode(text), data))

    def test_faults(self):
        for text, at in (
                ("", 0), ("x", 0), ("zz", 1), ("z ", 1), (" z", 0), (")", 0), ("(", 1), ("(]", 1), ("[)", 1), ("[z", 2),
                ("(zx)", 2), ("((z)", 4), ("()()", 2), ("i", 1), ("i;", 1), ("i-;", 1), ("i-0;", 1), ("i01;", 1), ("i5", 1),
                ("i5:", 1), ("i00;", 1), ("i-05;", 1), ("i+5;", 1), ("i12345678901234567;", 1), ("i5;;", 3), ("t", 1),
                ("t:", 1), ("t1:", 1), ("t-1:", 1), ("t-0:", 1), ("t01:a", 1), ("t2:a", 1), ("t1;a", 1), ("t1:ab", 4),
                ("(t5:abc)", 2), ("(zi)", 3), ("(t1:a", 5), ("t99999999999999999999:a", 1), ("i" + "1" * 9000 + ";", 1)):
            self.assertEqual(self.fault(text), at, text)

    def test_deep(self):
        data = None
        for k in range(5000):
            data = (data,) if k % 2 else [data]
        text = encode(data)
        self.assertEqual(text, "([" * 2500 + "z" + "])" * 2500)
        self.assertEqual(encode(decode(text)), text)
        self.assertEqual(self.fault("(" * 5000), 5000)

    def test_random(self):
        for seed in range(400):
            data = data_of(random.Random(seed))
            text = check_untouched(self, encode, data)
            self.assertTrue(same(check_untouched(self, decode, text), data))
            for cut in range(len(text)):
                self.assertRaises(FormError, decode, text[:cut])
            self.assertEqual(self.fault(text + "z"), len(text))


if __name__ == "__main__":
    unittest.main()
