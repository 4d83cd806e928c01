import unittest

from flowreprise.code import leaders, made, may_fail, taken, targets
from tests.helper import check_untouched

# Each instruction of point 41: how many values it takes, and whether it may fail.
ROWS = [
    (("push", ("int", 1)), 0, False), (("get", 0), 0, False), (("put", 0), 1, False), (("drop",), 1, False),
    (("op", "+"), 2, True), (("op", "-"), 2, True), (("op", "*"), 2, True), (("op", "/"), 2, True),
    (("op", "&"), 2, True), (("op", "="), 2, False), (("op", "!="), 2, False), (("op", "<"), 2, False),
    (("op", "<="), 2, False), (("not",), 1, False), (("neg",), 1, False), (("item",), 2, True),
    (("size",), 1, False), (("text of",), 1, False), (("list", "int", 3), 3, True), (("list", "int", 0), 0, True),
    (("jump", 0), 0, False), (("unless", 0), 1, False), (("call", "f", 2), 2, True), (("call", "f", 0), 0, True),
    (("return",), 1, False), (("ask", "act", "pay", "int"), 1, True), (("ask", "timer"), 1, True),
    (("ask", "random"), 1, True), (("ask", "flow", "f", 3, "int"), 3, True), (("ask", "flow", "f", 0, "int"), 0, True),
    (("ask", "signal", "go", "int"), 0, True), (("ask", "now"), 0, True), (("guard", 1, 0), 0, False),
    (("unguard",), 0, False), (("fail",), 1, True)]


class TestInstructions(unittest.TestCase):
    def test_taken_and_may_fail(self):
        for row, count, fails in ROWS:
            with self.subTest(row=row):
                self.assertEqual(taken(row), count)
                self.assertIs(may_fail(row), fails)

    def test_made(self):
        one, two, truth = ("int", 1), ("int", 2), ("bool", True)
        rows = ("list", (one, two))
        for row, values, wanted in (
                (("op", "-"), [one, two], ("ok", ("int", -1))), (("op", "/"), [one, ("int", 0)], ("failed", 1)),
                (("op", "<"), [one, two], ("ok", truth)), (("op", "<"), [two, one], ("ok", ("bool", False))),
                (("op", "&"), [rows, rows], ("ok", ("list", (one, two, one, two)))),
                (("op", "="), [one, one], ("ok", truth)), (("not",), [truth], ("ok", ("bool", False))),
                (("neg",), [two], ("ok", ("int", -2))), (("item",), [rows, one], ("ok", two)),
                (("item",), [rows, two], ("failed", 3)), (("size",), [rows], ("ok", two)),
                (("text of",), [truth], ("ok", ("text", "true"))), (("list", "int", 2), [one, two], ("ok", rows)),
                (("list", "int", 0), [], ("ok", ("list", ()))), (("list", "int", 21), [one] * 21, ("failed", 2))):
            with self.subTest(row=row):
                self.assertEqual(check_untouched(self, made, row, values), wanted)


class TestPlaces(unittest.TestCase):
    def test_targets(self):
        rows = [row for row, _, _ in ROWS]
        for at, row in enumerate(rows):
            wanted = {"jump": [0], "unless": [at + 1, 0], "return": [], "fail": []}.get(row[0], [at + 1])
            with self.subTest(row=row):
                self.assertEqual(check_untouched(self, targets, rows, at), wanted)

    def test_unless_to_the_next_place(self):
        self.assertEqual(targets([("get", 0), ("unless", 2), ("return",)], 1), [2, 2])

    def test_jumps(self):
        self.assertEqual(targets([("jump", 0)], 0), [0])
        self.assertEqual(targets([("jump", 2), ("drop",), ("jump", 1)], 0), [2])
        self.assertEqual(targets([("jump", 2), ("drop",), ("jump", 1)], 2), [1])

    def test_leaders(self):
        self.assertEqual(leaders([("push", ("int", 1)), ("return",)]), [0])
        rows = [("guard", 7, 3), ("get", 5), ("unless", 4), ("jump", 2), ("put", 6), ("unguard",), ("jump", 2),
                ("call", "f", 1), ("ask", "now"), ("return",)]
        self.assertEqual(check_untouched(self, leaders, rows), [0, 2, 4, 7])
        self.assertEqual(leaders([("jump", 0)]), [0])


if __name__ == "__main__":
    unittest.main()
