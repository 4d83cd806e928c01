import copy
import random
import unittest

from flowreprise.forms import decode, encode
from flowreprise.journals import Journal, read_records, record_of
from flowreprise.states import State, state_of
from flowreprise.trees import read_program
from flowreprise.vaults import Vault, restored, saved
from flowreprise.worlds import World
from tests.helper import Maker, check_untouched, deed_for, mutable_ids, told_of

ONE, NONE = ("int", 1), ("nothing",)
PROGRAM = read_program("""
    fn acts(n: int): int { return await act pay(n): int; }
    fn mixed(n: int): int { do await timer(n); return await act pay(n): int; }
    fn signals(n: int): [int] { return await signal go: [int]; }
    fn flows(n: int): int { return await flow acts(n); }
    fn done(n: int): int { return n; }""")
EVENTS = [
    ("begin", 1, "flows", [("int", 7)], None), ("begin", 2, "acts", [("int", 7)], 1), ("tick", 5), ("attempt", 2, 1),
    ("sent", 2), ("begin", 3, "mixed", [ONE], None), ("due", 3, 6), ("lost", 2, 404), ("tick", 9), ("answer", 3, ("ok", NONE), None),
    ("attempt", 3, 1), ("begin", 4, "signals", [ONE], None), ("signal", 4, "stop", ONE), ("signal", 4, "go", ("list", ())),
    ("off", 4), ("answer", 4, ("ok", ("list", ())), 1), ("end", 4, ("done", ("list", ()))), ("attempt", 2, 2),
    ("answer", 2, ("ok", ONE), None), ("end", 2, ("done", ONE)), ("begin", 5, "done", [], None), ("end", 5, ("failed", 404)),
    ("begin", 6, "done", [("list", (("text", 'a"('),))], None), ("end", 6, ("tired",))]


def area_of(number, events, more=()):
    """The text of an area with a head, the state behind events, and more events."""
    rows = [("head", number), ("state", saved(state_of(events))), *more]
    return "".join(record_of(row) for row in rows)


class TestStates(unittest.TestCase):
    def test_without_flows(self):
        self.assertEqual(saved(State()), (0, []))
        self.assertEqual(told_of(restored((7, []))), (7, {}))

    def test_attributes(self):
        state = state_of(EVENTS[:9])
        moment, rows = saved(state)
        self.assertEqual(moment, 9)
        self.assertEqual(rows, [
            (1, ("flows", [("int", 7)], None, [], [], False, None, None, 0, None, None, 2, False)),
            (2, ("acts", [("int", 7)], 1, [], [], False, None, None, 1, 5, 404, None, True)),
            (3, ("mixed", [ONE], None, [], [], False, None, 6, 0, None, None, None, False))])
        self.assertIsInstance(saved(state), tuple)
        _, rows = saved(state_of(EVENTS))
        self.assertEqual(rows[3], (4, (
            "signals", [ONE], None, [("ok", ("list", ()))], [("stop", ONE)], True, ("done", ("list", ())), None, 0, None, None,
            None, False)))

    def test_ascending(self):
        state = State()
        for number in (3, 1, 2):
            state.apply(("begin", number, "done", [], None))
        self.assertEqual([number for number, _ in saved(state)[1]], [1, 2, 3])

    def test_saved_and_restored(self):
        for many in range(len(EVENTS) + 1):
            state = state_of(EVENTS[:many])
            before = copy.deepcopy(told_of(state))
            data = saved(state)
            other = restored(data)
            self.assertEqual(told_of(other), before)
            self.assertEqual(saved(other), data)
            self.assertEqual(told_of(restored(decode(encode(data)))), before)
            rows = [list(vars(flow).values()) for told in (state, other) for flow in told.flows.values()]
            self.assertFalse(mutable_ids(data) & mutable_ids(rows))
            # What comes later changes neither the data nor the other state.
            for event in EVENTS[many:]:
                state.apply(event)
            self.assertEqual(told_of(other), before)
            self.assertEqual(restored(data).moment, before[0])
            for event in EVENTS[many:]:
                other.apply(event)
            self.assertEqual(told_of(other), told_of(state))
            self.assertEqual(told_of(restored(data)), before)
            check_untouched(self, lambda told: told_of(restored(told))[0], data)


class Kept:
    """A vault beside all events that were written and the numbers of those that are safe at least."""

    def __init__(self):
        self.vault = Vault()
        self.events = []
        self.safe = 0

    def write(self, event):
        self.vault.append(event)
        self.events.append(event)

    def sync(self):
        self.vault.sync()
        self.safe = len(self.events)

    def begin(self):
        self.vault.begin_shortening(state_of(self.events))

    def end(self):
        self.vault.end_shortening()
        # The state with which the other area begins tells of all events before it.
        self.safe = len(self.events)


class TestVaults(unittest.TestCase):
    def texts(self, vault):
        return [area.text for area in vault.areas]

    def check(self, vault, first, second, safe, use, number):
        self.assertEqual(self.texts(vault), [first, second])
        self.assertEqual([area.safe for area in vault.areas], list(safe))
        self.assertEqual((vault.use, vault.number), (use, number))

    def test_new_one(self):
        vault = Vault()
        self.assertIsInstance(vault.areas, list)
        self.assertEqual([type(area) for area in vault.areas], [Journal, Journal])
        start = area_of(1, [])
        self.check(vault, start, "", (len(start), 0), 0, 1)
        self.assertEqual(read_records(start)[0], [("head", 1), ("state", (0, []))])
        vault.fall(0, 0)
        self.assertEqual(told_of(vault.recover()), (0, {}))
        self.check(vault, start, "", (len(start), 0), 0, 1)

    def test_writing(self):
        vault, start = Vault(), area_of(1, [])
        vault.append(("tick", 5))
        self.check(vault, area_of(1, [], [("tick", 5)]), "", (len(start), 0), 0, 1)
        vault.sync()
        vault.append(("tick", 6))
        safe = len(area_of(1, [], [("tick", 5)]))
        self.check(vault, area_of(1, [], [("tick", 5), ("tick", 6)]), "", (safe, 0), 0, 1)
        vault.fall(0, 0)
        self.assertEqual(vault.recover().moment, 5)

    def test_shortening(self):
        vault, start = Vault(), len(area_of(1, []))
        vault.append(("tick", 5))
        vault.begin_shortening(state_of([("tick", 5)]))
        old, fresh = area_of(1, [], [("tick", 5)]), area_of(2, [("tick", 5)])
        self.check(vault, old, fresh, (start, 0), 0, 1)
        vault.append(("tick", 6))
        old, fresh = area_of(1, [], [("tick", 5), ("tick", 6)]), area_of(2, [("tick", 5)], [("tick", 6)])
        self.check(vault, old, fresh, (start, 0), 0, 1)
        vault.sync()
        self.check(vault, old, fresh, (len(old), len(fresh)), 0, 1)
        vault.append(("tick", 7))
        vault.end_shortening()
        old = area_of(1, [], [("tick", 5), ("tick", 6), ("tick", 7)])
        both = area_of(2, [("tick", 5)], [("tick", 6), ("tick", 7)])
        self.check(vault, old, both, (len(area_of(1, [], [("tick", 5), ("tick", 6)])), len(both)), 1, 2)
        # From now on events are written to the other area alone.
        vault.append(("tick", 8))
        last = area_of(2, [("tick", 5)], [("tick", 6), ("tick", 7), ("tick", 8)])
        self.assertEqual(self.texts(vault), [old, last])
        vault.sync()
        self.assertEqual(vault.areas[1].safe, len(last))
        self.assertLess(vault.areas[0].safe, len(old))
        # The next shortening clears the first area.
        vault.begin_shortening(state_of([("tick", 8)]))
        self.check(vault, area_of(3, [("tick", 8)]), last, (0, len(last)), 1, 2)
        vault.end_shortening()
        self.check(vault, area_of(3, [("tick", 8)]), last, (len(area_of(3, [("tick", 8)])), len(last)), 0, 3)
        vault.fall(0, 0)
        self.assertEqual(vault.recover().moment, 8)
        self.assertEqual((vault.use, vault.number), (0, 3))

    def test_beginning_anew(self):
        vault = Vault()
        vault.append(("tick", 5))
        vault.begin_shortening(state_of([("tick", 5)]))
        vault.append(("tick", 6))
        vault.sync()
        vault.begin_shortening(state_of([("tick", 6)]))
        fresh = area_of(2, [("tick", 6)])
        self.assertEqual((self.texts(vault)[1], vault.areas[1].safe, vault.use, vault.number), (fresh, 0, 0, 1))
        vault.append(("tick", 7))
        vault.end_shortening()
        self.assertEqual(self.texts(vault)[1], area_of(2, [("tick", 6)], [("tick", 7)]))
        vault.fall(0, 0)
        self.assertEqual(vault.recover().moment, 7)

    def test_recovering_ends_a_shortening(self):
        for kept, use, number in ((0, 0, 1), (10 ** 6, 1, 2)):
            vault = Vault()
            vault.begin_shortening(State())
            vault.fall(0, kept)
            vault.recover()
            self.assertEqual((vault.use, vault.number), (use, number))
            before = self.texts(vault)
            vault.append(("tick", 3))
            after = self.texts(vault)
            self.assertEqual(after[1 - use], before[1 - use])
            self.assertEqual(after[use], before[use] + record_of(("tick", 3)))
            vault.sync()
            self.assertEqual(vault.areas[use].safe, len(after[use]))
            vault.begin_shortening(state_of([("tick", 3)]))
            vault.end_shortening()
            self.assertEqual((vault.use, vault.number), (1 - use, number + 1))

    def test_the_area_with_the_greatest_number(self):
        # The head alone is not enough, nor is a part of the state.
        for kept in range(len(area_of(2, [("tick", 5)], [("tick", 6)])) + 2):
            vault = Vault()
            vault.append(("tick", 5))
            vault.sync()
            vault.begin_shortening(state_of([("tick", 5)]))
            vault.append(("tick", 6))
            vault.fall(0, kept)
            is_whole = kept >= len(area_of(2, [("tick", 5)]))
            is_more = kept >= len(area_of(2, [("tick", 5)], [("tick", 6)]))
            self.assertEqual(vault.recover().moment, 6 if is_more else 5)
            self.assertEqual((vault.use, vault.number), (1, 2) if is_whole else (0, 1))
            # Recovering once more finds the same.
            vault.fall(0, 0)
            self.assertEqual(vault.recover().moment, 6 if is_more else 5)

    def test_states_are_not_shared(self):
        vault, state = Vault(), state_of(EVENTS[:3])
        vault.begin_shortening(state)
        state.apply(("tick", 77))
        vault.end_shortening()
        self.assertEqual(vault.recover().moment, 5)
        told = vault.recover()
        told.apply(("tick", 77))
        self.assertEqual(vault.recover().moment, 5)


class TestPowerFailures(unittest.TestCase):
    def check_fall(self, kept, first, second):
        """Lets the power fail, and checks the state; returns how many events were kept."""
        kept.vault.fall(first, second)
        state = kept.vault.recover()
        told = told_of(state)
        fitting = [k for k in range(kept.safe, len(kept.events) + 1) if told_of(state_of(kept.events[:k])) == told]
        self.assertTrue(fitting)
        self.assertEqual([area.safe for area in kept.vault.areas], [len(area.text) for area in kept.vault.areas])
        again = kept.vault.recover()
        self.assertEqual(told_of(again), told)
        return fitting[-1]

    def test_each_moment_and_each_number_of_characters(self):
        """A shortening that begins anew, and a second one behind it, with all that may be kept."""
        script = ["write", "sync", "write", "begin", "write", "sync", "write", "begin", "write", "end", "write", "sync", "begin",
                  "write", "end", "write"]
        seen = 0
        for many in range(len(script) + 1):
            kept = self.played(script[:many])
            left = [len(area.text) - area.safe for area in kept.vault.areas]
            rows = [(a, b) for a in range(0, left[0] + 1) for b in range(0, left[1] + 1)
                    if a in (0, left[0]) or b in (0, left[1]) or (a + b) % 23 == 0]
            for first, second in rows:
                other = copy.deepcopy(kept)
                self.check_fall(other, first, second)
                seen += 1
        self.assertGreater(seen, 2000)

    def played(self, script):
        kept, events = Kept(), iter([("tick", k) for k in range(1, 20)])
        for word in script:
            if word == "write":
                kept.write(next(events))
            else:
                getattr(kept, word)()
        return kept

    def test_random(self):
        lost = 0
        for seed in range(150):
            rng = random.Random(seed)
            source = self.events_of(rng)
            kept, is_begun = Kept(), False
            while len(kept.events) < len(source) - 1:
                way = rng.random()
                if way < 0.6:
                    kept.write(source[len(kept.events)])
                elif way < 0.7:
                    kept.sync()
                elif way < 0.8:
                    kept.begin()
                    is_begun = True
                elif way < 0.88 and is_begun:
                    kept.end()
                    is_begun = False
                elif way > 0.93:
                    left = [len(area.text) - area.safe for area in kept.vault.areas]
                    rows = [rng.choice([0, many, rng.randrange(many + 1)]) for many in left]
                    before = len(kept.events)
                    many = self.check_fall(kept, *rows)
                    lost += many < before
                    kept.events, kept.safe, is_begun = kept.events[:many], many, False
            state = kept.vault.recover()
            self.assertEqual(told_of(state), told_of(state_of(kept.events)))
        self.assertGreater(lost, 30)

    def events_of(self, rng):
        world = World(PROGRAM if rng.random() < 0.5 else Maker(rng).program())
        while len(read_records(world.journal.text)[0]) < 25:
            world.perform(deed_for(rng, world, 0))
        return read_records(world.journal.text)[0]


if __name__ == "__main__":
    unittest.main()
