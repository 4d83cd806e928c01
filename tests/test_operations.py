import random
import unittest

from flowreprise import values
from flowreprise.operations import (
    inverted, is_of, is_value, item_of, list_of, negated, operate, size_of, text_of)
from tests.helper import KINDS, check_untouched, random_value

MOST = 10 ** 12


def whole(n):
    return ("int", n)


def text(s):
    return ("text", s)


def ints(*numbers):
    return ("list", tuple(whole(n) for n in numbers))


def nested(depth, inner=None):
    value = ("list", ()) if inner is None else inner
    for _ in range(depth - (inner is None)):
        value = ("list", (value,))
    return value


def nested_type(depth, inner="int"):
    for _ in range(depth):
        inner = ("list", inner)
    return inner


class TestExample(unittest.TestCase):
    def test_example(self):
        told = operate("/", whole(-7), whole(2)), operate("/", whole(1), whole(0)), item_of(("list", ()), whole(0))
        self.assertEqual(told, (("ok", ("int", -4)), ("failed", 1), ("failed", 3)))


class TestNumbers(unittest.TestCase):
    def check(self, sign, m, n, wanted):
        told = ("failed", 2) if wanted is None else ("ok", whole(wanted))
        self.assertEqual(check_untouched(self, operate, sign, whole(m), whole(n)), told)

    def test_sums_and_differences(self):
        self.check("+", 2, 3, 5)
        self.check("+", MOST, -MOST, 0)
        self.check("+", MOST - 1, 1, MOST)
        self.check("+", MOST, 1, None)
        self.check("+", -MOST, -1, None)
        self.check("+", MOST, MOST, None)
        self.check("-", 2, 3, -1)
        self.check("-", -MOST, 0, -MOST)
        self.check("-", 1 - MOST, 1, -MOST)
        self.check("-", -MOST, 1, None)
        self.check("-", MOST, -1, None)

    def test_products(self):
        self.check("*", -4, 6, -24)
        self.check("*", 10 ** 6, 10 ** 6, MOST)
        self.check("*", 10 ** 6, -10 ** 6, -MOST)
        self.check("*", 10 ** 6 + 1, 10 ** 6, None)
        self.check("*", MOST, MOST, None)
        self.check("*", MOST, 0, 0)

    def test_quotients(self):
        self.check("/", 7, 2, 3)
        self.check("/", -7, 2, -4)
        self.check("/", 7, -2, -4)
        self.check("/", -7, -2, 3)
        self.check("/", 6, -3, -2)
        self.check("/", 0, 5, 0)
        self.check("/", -1, MOST, -1)
        self.check("/", MOST, -1, -MOST)
        self.check("/", -MOST, -1, MOST)
        for m in (0, 1, -1, MOST, -MOST):
            self.assertEqual(operate("/", whole(m), whole(0)), ("failed", 1))

    def test_negated(self):
        for n in (0, 1, -1, 17, MOST, -MOST):
            self.assertEqual(negated(whole(n)), ("ok", whole(-n)))

    def test_random_numbers(self):
        rng = random.Random(4)
        for _ in range(2000):
            m, n = (random_value(rng, "int", rng.random() < 0.5)[1] for _ in range(2))
            for sign, wanted in (("+", m + n), ("-", m - n), ("*", m * n)):
                self.check(sign, m, n, wanted if abs(wanted) <= MOST else None)
            if n != 0:
                quotient = operate("/", whole(m), whole(n))[1][1]
                rest = m - quotient * n
                self.assertTrue(0 <= rest < n or n < rest <= 0)


class TestTextsAndLists(unittest.TestCase):
    def test_texts_put_together(self):
        self.assertEqual(operate("&", text("ab"), text("c")), ("ok", text("abc")))
        self.assertEqual(operate("&", text(""), text("")), ("ok", text("")))
        self.assertEqual(operate("&", text("a" * 40), text("b" * 20)), ("ok", text("a" * 40 + "b" * 20)))
        self.assertEqual(operate("&", text("a" * 40), text("b" * 21)), ("failed", 2))
        self.assertEqual(operate("&", text("a" * 60), text("")), ("ok", text("a" * 60)))

    def test_lists_put_together(self):
        self.assertEqual(operate("&", ints(1), ints(2, 3)), ("ok", ints(1, 2, 3)))
        self.assertEqual(operate("&", ("list", ()), ("list", ())), ("ok", ("list", ())))
        self.assertEqual(operate("&", ints(*range(12)), ints(*range(8))), ("ok", ints(*range(12), *range(8))))
        self.assertEqual(operate("&", ints(*range(12)), ints(*range(9))), ("failed", 2))
        self.assertEqual(operate("&", ints(*range(20)), ints()), ("ok", ints(*range(20))))

    def test_items(self):
        told = ints(5, 6, 7)
        self.assertEqual(item_of(told, whole(0)), ("ok", whole(5)))
        self.assertEqual(item_of(told, whole(2)), ("ok", whole(7)))
        for n in (3, -1, -3, MOST, -MOST):
            self.assertEqual(item_of(told, whole(n)), ("failed", 3))
        self.assertEqual(item_of(("list", ()), whole(0)), ("failed", 3))
        self.assertEqual(item_of(("list", ()), whole(-1)), ("failed", 3))
        self.assertEqual(item_of(ints(*range(20)), whole(19)), ("ok", whole(19)))

    def test_sizes(self):
        self.assertEqual(size_of(text("")), ("ok", whole(0)))
        self.assertEqual(size_of(text('a"' * 30)), ("ok", whole(60)))
        self.assertEqual(size_of(("list", ())), ("ok", whole(0)))
        self.assertEqual(size_of(ints(*range(20))), ("ok", whole(20)))

    def test_texts_of(self):
        self.assertEqual(text_of(whole(0)), ("ok", text("0")))
        self.assertEqual(text_of(whole(-70)), ("ok", text("-70")))
        self.assertEqual(text_of(whole(-MOST)), ("ok", text("-1000000000000")))
        self.assertEqual(text_of(("bool", True)), ("ok", text("true")))
        self.assertEqual(text_of(("bool", False)), ("ok", text("false")))

    def test_lists_made(self):
        self.assertEqual(list_of([]), ("ok", ("list", ())))
        self.assertEqual(check_untouched(self, list_of, [whole(1), whole(2)]), ("ok", ints(1, 2)))
        self.assertEqual(list_of((text("a"),)), ("ok", ("list", (text("a"),))))
        self.assertEqual(list_of([whole(n) for n in range(20)]), ("ok", ints(*range(20))))
        self.assertEqual(list_of([whole(n) for n in range(21)]), ("failed", 2))
        self.assertEqual(list_of([nested(5)]), ("ok", nested(6)))
        self.assertEqual(list_of([nested(6)]), ("failed", 2))
        self.assertEqual(list_of([nested(5, whole(1))]), ("ok", nested(6, whole(1))))
        self.assertEqual(list_of([nested(6, whole(1))]), ("failed", 2))


class TestTruths(unittest.TestCase):
    def test_inverted(self):
        self.assertEqual(inverted(("bool", True)), ("ok", ("bool", False)))
        self.assertEqual(inverted(("bool", False)), ("ok", ("bool", True)))

    def check(self, a, b, is_same):
        self.assertEqual(operate("=", a, b), ("ok", ("bool", is_same)))
        self.assertEqual(operate("!=", a, b), ("ok", ("bool", not is_same)))

    def test_same(self):
        self.check(whole(1), whole(1), True)
        self.check(whole(MOST), whole(-MOST), False)
        self.check(text("a"), text("a "), False)
        self.check(text('"'), text('"'), True)
        self.check(("bool", True), ("bool", False), False)
        self.check(("nothing",), ("nothing",), True)
        self.check(("list", ()), ("list", ()), True)
        self.check(ints(1, 2), ints(1, 2), True)
        self.check(ints(1, 2), ints(2, 1), False)
        self.check(ints(1), ints(1, 1), False)
        self.check(("list", (ints(), ints(1))), ("list", (ints(), ints(1))), True)

    def test_order(self):
        rows = [whole(-MOST), whole(-10), whole(-9), whole(0), whole(9), whole(10), whole(MOST)]
        texts = [text(""), text(" "), text("A"), text("AB"), text("a"), text("a "), text("ab"), text("b"), text("~")]
        for told in (rows, texts):
            for k, one in enumerate(told):
                for n, other in enumerate(told):
                    self.assertEqual(operate("<", one, other), ("ok", ("bool", k < n)))
                    self.assertEqual(operate("<=", one, other), ("ok", ("bool", k <= n)))


class TestKinds(unittest.TestCase):
    def both(self, value):
        told = is_value(value)
        self.assertEqual(told, values.is_value(value))
        return told

    def test_numbers(self):
        for n in (0, MOST, -MOST):
            self.assertIs(self.both(whole(n)), True)
        for n in (MOST + 1, -MOST - 1, 10 ** 40):
            self.assertIs(self.both(whole(n)), False)
            self.assertIs(is_of(whole(n), "int"), False)
            self.assertIs(self.both(ints(1, n)), False)

    def test_texts(self):
        for s in ("", " ", "~", '"', "x" * 60):
            self.assertIs(self.both(text(s)), True)
            self.assertIs(is_of(text(s), "text"), True)
        for s in ("x" * 61, "\n", "\t", "a\x1f", "\x7f", "\u00e4", "\x00"):
            self.assertIs(self.both(text(s)), False)
            self.assertIs(is_of(text(s), "text"), False)
            self.assertIs(self.both(("list", (text("a"), text(s)))), False)

    def test_lists(self):
        self.assertIs(self.both(ints(*range(20))), True)
        self.assertIs(self.both(ints(*range(21))), False)
        self.assertIs(is_of(ints(*range(21)), ("list", "int")), False)
        for inner in (None, whole(1), text("a"), ("nothing",)):
            self.assertIs(self.both(nested(6, inner)), True)
            self.assertIs(self.both(nested(7, inner)), False)
        self.assertIs(is_of(nested(6, whole(1)), nested_type(6)), True)
        self.assertIs(is_of(nested(7, whole(1)), nested_type(7)), False)
        self.assertIs(is_of(("list", ()), nested_type(7)), False)

    def test_items_of_no_type(self):
        for items in ((whole(1), ("bool", True)), (("bool", False), whole(0)), (text("1"), whole(1)),
                      (("nothing",), ("list", ())), (ints(1), whole(1)), (ints(1), ("list", (text("a"),))),
                      (("list", ()), ints(1), ("list", (("list", ()),)))):
            self.assertIs(self.both(("list", items)), False)
            for kind in KINDS:
                self.assertIs(is_of(("list", items), kind), False)

    def test_empty_lists(self):
        for kind in ("int", "bool", "text", "nothing"):
            self.assertIs(is_of(("list", ()), kind), False)
            for depth in range(1, 7):
                self.assertIs(is_of(("list", ()), nested_type(depth, kind)), True)
        self.assertIs(is_of(nested(2), ("list", "int")), False)
        self.assertIs(is_of(("list", (("list", ()), ints(1))), nested_type(2)), True)
        self.assertIs(is_of(("list", (("list", ()), ints(1))), nested_type(2, "text")), False)
        self.assertIs(is_of(("list", (("list", ()), ints(1))), nested_type(3)), False)

    def test_types(self):
        rng = random.Random(5)
        for kind in KINDS:
            for other in KINDS:
                value = random_value(rng, kind, True)
                while isinstance(kind, tuple) and not (value[1] and value[1][0] != ("list", ())):
                    value = random_value(rng, kind, True)
                self.assertIs(is_of(value, other), kind == other)
                self.assertIs(self.both(value), True)


if __name__ == "__main__":
    unittest.main()
