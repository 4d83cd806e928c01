import random
import unittest

from flowreprise.forms import encode
from flowreprise.journals import Journal, check_of, read_records, record_of
from tests.helper import check_untouched
from tests.test_forms import data_of, same


def checked(text):
    """The check number of a text by the words of point 74."""
    number = 7
    for letter in text:
        number = (number * 33 + ord(letter)) % 4294967291
    return number


class TestRecords(unittest.TestCase):
    def test_check_numbers(self):
        self.assertEqual(check_of(""), 7)
        self.assertEqual(check_of("a"), 7 * 33 + 97)
        self.assertEqual(check_of("ab"), (7 * 33 + 97) * 33 + 98)
        self.assertEqual(check_of("z" * 50), checked("z" * 50))
        self.assertLess(check_of("~" * 50), 4294967291)

    def test_records(self):
        self.assertEqual(record_of(None), f"(i1;)z(i{7 * 33 + 122};)")
        for data in ("", [], ("tick", 5), [1, (True, None)]):
            body = encode(data)
            record = check_untouched(self, record_of, data)
            self.assertEqual(record, f"(i{len(body)};){body}(i{checked(body)};)")
            self.assertEqual(read_records(record), ([data], len(record)))

    def test_several_and_cut_off(self):
        for seed in range(60):
            rng = random.Random(seed)
            rows = [data_of(rng, 2) for _ in range(rng.randrange(4))]
            records = [record_of(data) for data in rows]
            text = "".join(records)
            self.assertTrue(same(read_records(text), (rows, len(text))))
            for cut in range(len(text)):
                whole = [k for k in range(len(rows) + 1) if len("".join(records[:k])) <= cut][-1]
                told = check_untouched(self, read_records, text[:cut])
                self.assertTrue(same(told, (rows[:whole], len("".join(records[:whole])))))

    def test_records_that_are_not_right(self):
        good = record_of(["a"])
        for wrong in (
                "", "x", "(i1;)", "(i1;)z", "(i1;)z(i5;)", "(i2;)z(i353;)", "(i01;)z(i353;)", "(i1;)z(i0353;)",
                "[i1;]z(i353;)", "(i1;)z[i353;]", "(i1;z)z(i353;)", "(t1:1)z(i353;)", "(y)z(i353;)", "(i-1;)z(i353;)",
                "i1;z(i353;)", f"(i1;)x(i{checked('x')};)", f"(i0;)(i{checked('')};)", f"(i2;)zz(i{checked('zz')};)",
                " " + good, "(i99999999999;)z", "(i-14;)z(i353;)", "(i-15;)z(i353;)x"):
            self.assertEqual(read_records(wrong), ([], 0), wrong)
            self.assertEqual(read_records(good + wrong), ([["a"]], len(good)), wrong)
        self.assertEqual(read_records("(i1;)z(i353;)"), ([None], 13))


    def test_turned_characters(self):
        rows = [("begin", 1, "main", [("int", 5)], None), ("tick", 10), "(i1;)z(i353;)", [True, None]]
        records = [record_of(data) for data in rows]
        text = "".join(records)
        for at in range(len(text)):
            whole = [k for k in range(len(rows)) if len("".join(records[:k])) <= at][-1]
            for letter in "0129()[];:ztyi~ ":
                if letter != text[at]:
                    told = read_records(text[:at] + letter + text[at + 1:])
                    self.assertTrue(same(told, (rows[:whole], len("".join(records[:whole])))), (at, letter))
            for other in (text[:at] + text[at + 1:], text[:at] + text[at] + text[at:]):
                found, many = read_records(other)
                # Where equal characters stand beside each other, another record may be the one that is not right.
                self.assertIn(len(found), (whole, whole + 1))
                self.assertEqual(found, rows[:len(found)])
                self.assertEqual(many, len("".join(records[:len(found)])))

    def test_records_are_read_from_the_beginning(self):
        one, other = record_of("one"), record_of("other")
        for before in (" ", "z", "(i1;)", one[1:], one[:-1]):
            self.assertEqual(read_records(before + other), ([], 0))
            self.assertEqual(read_records(one + before + other), (["one"], len(one)))


class TestJournals(unittest.TestCase):
    def test_new_one(self):
        journal = Journal()
        self.assertEqual((journal.text, journal.safe), ("", 0))
        self.assertEqual(journal.recover(), [])

    def test_writing_and_making_safe(self):
        journal = Journal()
        journal.append(("a", 1))
        self.assertEqual((journal.text, journal.safe), (record_of(("a", 1)), 0))
        journal.sync()
        journal.append([2])
        self.assertEqual(journal.text, record_of(("a", 1)) + record_of([2]))
        self.assertEqual(journal.safe, len(record_of(("a", 1))))

    def test_falls(self):
        first, second, third = record_of("one"), record_of("two"), record_of("three")
        for kept in range(len(second + third) + 5):
            journal = Journal()
            journal.append("one")
            journal.sync()
            journal.append("two")
            journal.append("three")
            journal.fall(kept)
            self.assertEqual(journal.text, (first + second + third)[:len(first) + kept])
            self.assertEqual(journal.safe, len(first))
            wanted = ["one"] + ["two"] * (kept >= len(second)) + ["three"] * (kept >= len(second + third))
            self.assertEqual(journal.recover(), wanted)
            self.assertEqual(journal.text, "".join(record_of(data) for data in wanted))
            self.assertEqual(journal.safe, len(journal.text))
            journal.append("four")
            journal.fall(0)
            self.assertEqual(journal.recover(), wanted)

    def test_several_falls(self):
        """What was kept is safe behind a recovery, and what was written since then is not."""
        for seed in range(150):
            rng = random.Random(seed)
            journal, known, least = Journal(), [], 0
            for _ in range(20):
                way = rng.random()
                if way < 0.6:
                    known.append(data_of(rng, 2))
                    journal.append(known[-1])
                elif way < 0.75:
                    journal.sync()
                    least = len(known)
                else:
                    text, safe = journal.text, journal.safe
                    kept = rng.randrange(len(text) - safe + 3)
                    journal.fall(kept)
                    self.assertEqual((journal.text, journal.safe), (text[:safe + kept], safe))
                    if rng.random() < 0.3:
                        journal.fall(kept // 2)
                        self.assertEqual(journal.text, text[:safe + kept // 2])
                    found = journal.recover()
                    self.assertTrue(same(found, known[:len(found)]))
                    self.assertGreaterEqual(len(found), least)
                    self.assertTrue(text.startswith(journal.text))
                    known, least = found, len(found)
                    self.assertEqual(journal.safe, len(journal.text))
                self.assertEqual(journal.text, "".join(record_of(data) for data in known))

    def test_recovering_without_a_fall(self):
        journal = Journal()
        journal.append("one")
        self.assertEqual(journal.recover(), ["one"])
        self.assertEqual(journal.safe, len(journal.text))
        journal.text += "(i4;)"
        self.assertEqual(journal.recover(), ["one"])
        self.assertEqual(journal.text, record_of("one"))

    def test_data_are_not_shared(self):
        journal, data = Journal(), [1, [2]]
        journal.append(data)
        data[1].append(3)
        self.assertEqual(journal.recover(), [[1, [2]]])
        journal.recover()[0].append(5)
        self.assertEqual(journal.recover(), [[1, [2]]])


if __name__ == "__main__":
    unittest.main()
