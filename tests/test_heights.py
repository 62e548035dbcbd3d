"""[7] and [8]: levels, next and last notes, clocks and tables."""

import itertools
import random
import unittest

from boundorvoid.errors import NoName
from boundorvoid.heights import clock_fault, clock_of, clocks_of, closure_of, last_note, level_of
from boundorvoid.heights import next_level, next_levels, next_note, top_of
from boundorvoid.pacts import Pact, hand_of, lies_under, notes_of

from tests.helpers import base_pact, chain_pact, loose_pact, naive_under, raised, small_pacts

NOTES = [("m", "a", ()), ("n", "b", ("m",)), ("o", "a", ()), ("p", "b", ("o",))]


def example():
    return Pact(["a", "b"], NOTES, ["m", "n"], ("n", "o"))


def not_behind(row, one, other):
    """Whether a next note is there and not behind another place of its row."""
    return one is not None and row.index(one) <= row.index(other)


class HeightsTest(unittest.TestCase):
    def test_the_example(self):
        pact = example()
        self.assertEqual(next_note(pact, "b", "o"), "p")
        self.assertIsNone(next_note(pact, "a", "n"))
        self.assertEqual(last_note(pact, "a", "p"), "o")
        self.assertIsNone(last_note(pact, "b", "o"))
        self.assertEqual(next_levels(pact, "n"), (2, 0))
        self.assertEqual(clocks_of(pact), (((1, 0), (2, 0)), ((1, 1), (2, 2))))
        self.assertEqual(clock_of(pact, "p"), (2, 2))
        self.assertEqual([level_of(pact, name) for name in "mnop"], [0, 0, 1, 1])
        self.assertEqual((top_of(pact, "a"), top_of(pact, "b")), (2, 2))
        self.assertEqual((next_level(pact, "a", "n"), next_level(pact, "b", "m")), (2, 0))
        self.assertEqual(closure_of(pact, ("n", "o")), ("m", "n", "o"))
        self.assertEqual(closure_of(pact, ()), ())

    def test_by_name(self):
        pact = example()
        self.assertEqual(closure_of(pact=pact, lot=("n",)), ("m", "n"))
        self.assertEqual(level_of(pact=pact, note="o"), 1)
        self.assertEqual(top_of(pact=pact, hand="a"), 2)
        self.assertEqual(next_note(pact=pact, hand="b", note="o"), "p")
        self.assertEqual(last_note(pact=pact, hand="a", note="p"), "o")
        self.assertEqual(next_level(pact=pact, hand="a", note="n"), 2)
        self.assertEqual(next_levels(pact=pact, note="n"), (2, 0))
        self.assertEqual(clock_of(pact=pact, note="n"), (1, 1))
        self.assertEqual(clocks_of(pact=pact)[0], ((1, 0), (2, 0)))
        self.assertIsNone(clock_fault(table=clocks_of(pact)))

    def test_unknown_names(self):
        pact = example()
        for call in (level_of, next_levels, clock_of):
            self.assertEqual(raised(NoName, call, pact, "a"), "a")
        self.assertEqual(raised(NoName, top_of, pact, "m"), "m")
        self.assertEqual(raised(NoName, closure_of, pact, ("m", "y", "z")), "y")
        for call in (next_note, last_note, next_level):
            self.assertEqual(raised(NoName, call, pact, "m", "a"), "m")
            self.assertEqual(raised(NoName, call, pact, "a", "b"), "b")

    def test_against_the_words(self):
        for pact in small_pacts(3, 120, hands=(2, 4), notes=(2, 9)):
            under = naive_under(pact.notes)
            for note in pact.names:
                row = notes_of(pact, hand_of(pact, note))
                self.assertEqual(level_of(pact, note), row.index(note))
                for at, hand in enumerate(pact.hands):
                    row = notes_of(pact, hand)
                    above = [name for name in row if note in under[name]]
                    below = [name for name in row if name in under[note]]
                    level = row.index(above[0]) if above else len(row)
                    self.assertEqual(top_of(pact, hand), len(row))
                    self.assertEqual(next_note(pact, hand, note), above[0] if above else None)
                    self.assertEqual(last_note(pact, hand, note), below[-1] if below else None)
                    self.assertEqual(next_level(pact, hand, note), level)
                    self.assertEqual(next_levels(pact, note)[at], level)
                    self.assertEqual(clock_of(pact, note)[at], len(below))
            self.assertEqual(clocks_of(pact), tuple(
                tuple(clock_of(pact, name) for name in notes_of(pact, hand)) for hand in pact.hands))
            for many in range(3):
                for lot in itertools.combinations(sorted(pact.names), many):
                    below = set().union(*(under[name] for name in lot)) if lot else set()
                    self.assertEqual(closure_of(pact, lot), tuple(sorted(below)))

    def test_next_and_last_tell_what_lies_under(self):
        for pact in small_pacts(4, 80, hands=(2, 4), notes=(2, 8)):
            for m, v in itertools.product(pact.names, repeat=2):
                under = lies_under(pact, m, v)
                row = notes_of(pact, hand_of(pact, v))
                self.assertEqual(under, not_behind(row, next_note(pact, hand_of(pact, v), m), v))
                row = notes_of(pact, hand_of(pact, m))
                last = last_note(pact, hand_of(pact, m), v)
                self.assertEqual(under, last is not None and row.index(last) >= row.index(m))
                if under:
                    for one, other in zip(next_levels(pact, m), next_levels(pact, v)):
                        self.assertLessEqual(one, other)
                    for one, other in zip(clock_of(pact, m), clock_of(pact, v)):
                        self.assertLessEqual(one, other)

    def test_clocks_and_next_levels_tell_what_lies_under(self):
        for pact in small_pacts(5, 80, hands=(2, 4), notes=(2, 8)):
            for m, v in itertools.product(pact.names, repeat=2):
                for told in (clock_of, next_levels):
                    below = all(one <= other for one, other in zip(told(pact, m), told(pact, v)))
                    self.assertEqual(lies_under(pact, m, v), below)
                    self.assertEqual(told(pact, m) == told(pact, v), m == v)


class ClockFaultTest(unittest.TestCase):
    def test_the_clauses(self):
        self.assertEqual(clock_fault((((1, 1),), ((1, 1),))), (1, 0))
        self.assertIsNone(clock_fault((((1, 0),), ((0, 1),))))
        # The number at its own row is not i + 1.
        self.assertEqual(clock_fault((((0, 0),), ((0, 1),))), (0, 0))
        self.assertEqual(clock_fault((((1, 0), (1, 0)), ((0, 1),))), (0, 1))
        self.assertEqual(clock_fault((((2, 0), (2, 0)), ((0, 1),))), (0, 0))
        # A number is above the length of a row.
        self.assertEqual(clock_fault((((1, 2),), ((0, 1),))), (0, 0))
        self.assertEqual(clock_fault((((1, 0),), ((2, 1),))), (1, 0))
        # What is counted of another row counts more itself.
        self.assertEqual(clock_fault((((1, 1), (2, 1)), ((2, 1),))), (0, 0))
        self.assertEqual(clock_fault((((1, 0), (2, 1)), ((1, 1), (1, 2)))), None)
        self.assertEqual(clock_fault((((1, 0), (2, 2)), ((1, 1), (3, 2)), )), (0, 1))
        # What comes ahead in the own row counts more.
        self.assertEqual(clock_fault((((1, 1), (2, 0)), ((0, 1),))), (0, 1))
        # The first of several.
        self.assertEqual(clock_fault((((1, 0), (3, 0)), ((0, 2),))), (0, 1))
        self.assertEqual(clock_fault((((1, 0), (2, 0)), ((0, 2),))), (1, 0))

    def test_equal_clocks(self):
        # Each counts the other one, so that nothing else is wrong.
        table = (((1, 0, 0), (2, 1, 0)), ((2, 1, 0),), ((0, 0, 1),))
        self.assertEqual(clock_fault(table), (1, 0))

    def test_a_table_is_of_a_pact_exactly_without_fault(self):
        for pact in small_pacts(6, 100, hands=(2, 4), notes=(2, 9)) + [chain_pact(["a", "b"], 40)]:
            self.assertIsNone(clock_fault(clocks_of(pact)))
        for sizes in ((1, 1), (2, 1), (1, 2), (1, 1, 1)):
            found = {clocks_of(pact) for pact in every_pact(sizes)}
            clocks = list(itertools.product(*(range(size + 2) for size in sizes)))
            rows = [list(itertools.product(clocks, repeat=size)) for size in sizes]
            for table in itertools.product(*rows):
                if all(clock[h] == i + 1 for h, row in enumerate(table) for i, clock in enumerate(row)):
                    self.assertEqual(clock_fault(table) is None, table in found)

    def test_changed_tables(self):
        rng = random.Random(7)
        for pact in small_pacts(8, 60, hands=(2, 3), notes=(3, 8)):
            table = [[list(clock) for clock in row] for row in clocks_of(pact)]
            h = rng.randrange(len(table))
            clock = rng.choice(table[h])
            clock[rng.randrange(len(clock))] += rng.choice((-1, 1, 2))
            if min(clock) < 0:
                continue
            changed = tuple(tuple(tuple(clock) for clock in row) for row in table)
            self.assertEqual(clock_fault(changed), slow_fault(changed))


def every_pact(sizes):
    """Pacts with rows of these sizes, for all orders of the hands' notes and all waits."""
    hands = "abc"[:len(sizes)]
    names = [hand + "xyz"[k] for hand, size in zip(hands, sizes) for k in range(size)]
    for order in itertools.permutations(names):
        if any([name for name in order if name[0] == hand] != [name for name in names if name[0] == hand]
               for hand in hands):
            continue
        choices = [[tuple(sorted(lot)) for many in range(at + 1) for lot in itertools.combinations(order[:at], many)]
                   for at in range(len(order))]
        for waits in itertools.product(*choices):
            notes = [(name, name[0], wait) for name, wait in zip(order, waits)]
            yield Pact(tuple(hands), notes, [hand + "x" for hand in hands], tuple(sorted(names)))


def slow_fault(table):
    earlier = []
    for h, row in enumerate(table):
        for i, clock in enumerate(row):
            wrong = clock[h] != i + 1 or clock in earlier
            for g, c in enumerate(clock):
                wrong = wrong or c > len(table[g])
                wrong = wrong or any(below[k] > clock[k] for below in table[g][:c] for k in range(len(clock)))
            if wrong:
                return h, i
            earlier.append(clock)
    return None


class SizesTest(unittest.TestCase):
    def test_forty_notes_and_six_hands(self):
        pact = loose_pact((35, 1, 1, 1, 1, 1))
        self.assertEqual(top_of(pact, "a"), 35)
        self.assertEqual(next_levels(pact, "aaa"), (0, 1, 1, 1, 1, 1))
        self.assertIsNone(clock_fault(clocks_of(pact)))

    def test_calls_between_change_nothing(self):
        one = base_pact()
        other = Pact(one.hands, [("m", "a", ()), ("n", "b", ()), ("o", "a", ()), ("p", "b", ("m",))], one.ready, ("o", "p"))
        before = (clocks_of(one), next_levels(one, "m"))
        self.assertNotEqual((clocks_of(other), next_levels(other, "m")), before)
        self.assertEqual((clocks_of(one), next_levels(one, "m")), before)


if __name__ == "__main__":
    unittest.main()
