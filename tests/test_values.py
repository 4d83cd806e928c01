import itertools
import random
import unittest

from flowreprise.values import fits, is_type, is_value, joined, kind_of, known_type, show_type, show_value
from tests.helper import KINDS, check_untouched, random_value

ONE, TRUE, TEXT, NOTHING, EMPTY = ("int", 1), ("bool", True), ("text", "a"), ("nothing",), ("list", ())


def listed(*items):
    return ("list", items)


def nested_type(depth, inner="int"):
    for _ in range(depth):
        inner = ("list", inner)
    return inner


def nested(depth, inner):
    for _ in range(depth):
        inner = ("list", (inner,))
    return inner


class TestTypes(unittest.TestCase):
    def test_is_type(self):
        for word in ("int", "bool", "text", "nothing"):
            for depth in range(7):
                self.assertIs(is_type(nested_type(depth, word)), True)
            self.assertIs(is_type(nested_type(7, word)), False)
            self.assertIs(is_type(nested_type(9, word)), False)
        for word in ("", "list", "ints", "Int", "none", "nothing "):
            self.assertIs(is_type(word), False)
            self.assertIs(is_type(("list", word)), False)

    def test_kind_of(self):
        for value, word in ((ONE, "int"), (TRUE, "bool"), (TEXT, "text"), (NOTHING, "nothing"), (EMPTY, "list"),
                            (listed(ONE), "list")):
            self.assertEqual(kind_of(value), word)

    def test_is_value(self):
        # The bounds are those of test_operations.py, which looks at both functions.
        for value in (ONE, TRUE, TEXT, NOTHING, EMPTY, listed(ONE, ONE), nested(6, ONE), nested(5, EMPTY)):
            self.assertIs(is_value(value), True)
        for value in (("int", 10 ** 12 + 1), ("text", "a" * 61), listed(ONE, TRUE), nested(7, ONE), nested(6, EMPTY)):
            self.assertIs(is_value(value), False)
            self.assertIs(is_value(listed(value)), False)


class TestFits(unittest.TestCase):
    def test_simple(self):
        for value, word in ((ONE, "int"), (TRUE, "bool"), (TEXT, "text"), (NOTHING, "nothing")):
            for kind in KINDS:
                self.assertIs(fits(value, kind), kind == word)
                self.assertIs(fits(EMPTY, kind), isinstance(kind, tuple))
            self.assertIs(fits(value, ("list", word)), False)
            self.assertIs(fits(listed(value, value), ("list", word)), True)
            self.assertIs(fits(listed(value, value), word), False)
            self.assertIs(fits(listed(EMPTY, listed(value)), nested_type(2, word)), True)
            self.assertIs(fits(listed(EMPTY, value), nested_type(2, word)), False)

    def test_each_item_is_looked_at(self):
        self.assertIs(fits(listed(ONE, ONE, TRUE), ("list", "int")), False)
        self.assertIs(fits(listed(TRUE, ONE, ONE), ("list", "int")), False)
        self.assertIs(fits(listed(listed(ONE), listed(TEXT)), nested_type(2)), False)
        self.assertIs(fits(EMPTY, "list"), False)

    def test_bounds_are_not_looked_at(self):
        self.assertIs(fits(("int", 10 ** 30), "int"), True)
        self.assertIs(fits(("text", "\n" * 70), "text"), True)
        self.assertIs(fits(listed(*[ONE] * 30), ("list", "int")), True)
        self.assertIs(fits(nested(8, ONE), nested_type(8)), True)


class TestKnown(unittest.TestCase):
    def test_example(self):
        self.assertEqual(known_type(("list", (("list", ()), ("list", (("int", 1),))))), ("list", ("list", "int")))

    def test_known_type(self):
        for value, known in (
                (ONE, "int"), (("int", 10 ** 30), "int"), (TRUE, "bool"), (TEXT, "text"), (NOTHING, "nothing"),
                (EMPTY, ("list", None)), (listed(EMPTY), ("list", ("list", None))),
                (listed(ONE, ONE), ("list", "int")), (listed(EMPTY, EMPTY), ("list", ("list", None))),
                (listed(listed(EMPTY), EMPTY), nested_type(3, None)),
                (listed(EMPTY, listed(EMPTY), listed(listed(TEXT))), nested_type(3, "text")),
                (nested(8, EMPTY), nested_type(9, None))):
            with self.subTest(value=value):
                self.assertEqual(known_type(value), known)

    def test_items_that_cannot_be_joined(self):
        for value in (listed(ONE, TRUE), listed(ONE, EMPTY), listed(EMPTY, TEXT), listed(listed(ONE), listed(TEXT)),
                      listed(listed(EMPTY), listed(ONE)), listed(listed(ONE, TRUE)), listed(EMPTY, listed(ONE, TRUE)),
                      listed(listed(ONE, TRUE), EMPTY), listed(ONE, ONE, NOTHING)):
            with self.subTest(value=value):
                self.assertIs(known_type(value), False)
                self.assertIs(is_value(value), False)

    def test_joined(self):
        some = ["int", "text", ("list", None), ("list", "int"), ("list", "text"), nested_type(2, None),
                nested_type(2), nested_type(3, None)]
        wanted = {
            (2, 3): 3, (2, 4): 4, (2, 5): 5, (2, 6): 6, (2, 7): 7, (5, 6): 6, (5, 7): 7}
        for k, n in itertools.combinations_with_replacement(range(len(some)), 2):
            told = some[k] if k == n else False
            if (k, n) in wanted:
                told = some[wanted[(k, n)]]
            self.assertEqual(joined(some[k], some[n]), told)
            self.assertEqual(joined(some[n], some[k]), told)

    def test_joined_with_what_is_not_known(self):
        for kind in (*KINDS, ("list", None), None):
            self.assertEqual(joined(None, kind), kind)
            self.assertEqual(joined(kind, None), kind)

    def test_values_have_the_types_that_are_known(self):
        rng = random.Random(8)
        for _ in range(300):
            kind, other = rng.choice(KINDS), rng.choice(KINDS)
            value, more = random_value(rng, kind, True), random_value(rng, other, True)
            self.assertIs(fits(value, kind), True)
            self.assertEqual(joined(known_type(value), kind), kind)
            both = listed(value, more)
            self.assertEqual(known_type(both) is not False, joined(known_type(value), known_type(more)) is not False)
            check_untouched(self, known_type, both)


class TestShown(unittest.TestCase):
    def test_example(self):
        self.assertEqual(show_value(("list", (("text", 'a"b'), ("text", "")))), '["a""b", ""]')

    def test_types(self):
        for word in ("int", "bool", "text", "nothing"):
            for depth in range(7):
                self.assertEqual(show_type(nested_type(depth, word)), "[" * depth + word + "]" * depth)

    def test_values(self):
        for value, text in (
                (("int", 0), "0"), (("int", 10 ** 12), "1000000000000"), (("int", -10 ** 12), "-1000000000000"),
                (("int", -7), "-7"), (TRUE, "true"), (("bool", False), "false"), (NOTHING, "nothing"),
                (("text", ""), '""'), (("text", '"'), '""""'), (("text", " ~"), '" ~"'), (EMPTY, "[]"),
                (listed(ONE), "[1]"), (listed(ONE, ("int", -2)), "[1, -2]"), (listed(EMPTY, EMPTY), "[[], []]"),
                (listed(listed(TRUE), EMPTY), "[[true], []]"), (listed(NOTHING, NOTHING), "[nothing, nothing]"),
                (nested(6, ONE), "[[[[[[1]]]]]]")):
            self.assertEqual(show_value(value), text)

    def test_different_values_have_different_forms(self):
        rng = random.Random(9)
        forms = {}
        for _ in range(3000):
            value = random_value(rng, rng.choice(KINDS), rng.random() < 0.5)
            self.assertEqual(forms.setdefault(show_value(value), value), value)


if __name__ == "__main__":
    unittest.main()
