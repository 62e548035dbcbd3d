"""[20], [21] and [22]: rows, climbs, ladders, descents and moments of rows."""

import itertools
import unittest

from boundorvoid.climbs import climb, climb_from, descent, ladder_holds, need_row, row_holds, row_moments, row_starts
from boundorvoid.errors import InvalidRow, NoName
from boundorvoid.heights import last_note, next_note
from boundorvoid.moments import need_moment
from boundorvoid.pacts import Pact, key_note, lies_under, notes_of, ready_note

from tests.helpers import all_rows, base_pact, chain_pact, note_names, owners_of, raised, small_pacts


def naive_climb(pact, note, row):
    found = []
    for hand in row:
        above = [name for name in notes_of(pact, hand) if lies_under(pact, note, name)]
        if not above:
            break
        note = above[0]
        found.append(note)
    return tuple(found)


def ladders(pact, hand, row):
    """All ladders of a row from a hand, tried one by one."""
    found = []
    for notes in itertools.product(*(notes_of(pact, one) for one in row)):
        chain = (ready_note(pact, hand),) + notes + (key_note(pact, row[-1]),)
        if all(lies_under(pact, one, other) for one, other in zip(chain, chain[1:])):
            found.append(notes)
    return found


class NeedRowTest(unittest.TestCase):
    def test_rows(self):
        pact = base_pact()
        for row in (("a",), ("b",), ("a", "b"), ("b", "a")):
            self.assertIsNone(need_row(pact, row))
        self.assertIsNone(need_row(pact=pact, value=("a",)))

    def test_wrong_values(self):
        pact = base_pact()
        for value in (None, (), [], ["a"], "a", 0, True, pact):
            self.assertEqual(raised(InvalidRow, need_row, pact, value), -1)
        for value, at in ((("a", "a"), 1), (("c",), 0), (("a", "m"), 1), (("a", None), 1), (("b", "a", "b"), 2),
                          ((["a"],), 0), ((1, "a"), 0), (("a", "b", "c"), 2), (("a", ("b",)), 1), ((pact,), 0)):
            self.assertEqual(raised(InvalidRow, need_row, pact, value), at, value)

    def test_the_order_of_errors(self):
        pact = base_pact()
        for call in (climb, row_holds, row_moments):
            self.assertEqual(raised(NoName, call, pact, "m", ()), "m")
            self.assertEqual(raised(InvalidRow, call, pact, "a", ("a", "m")), 1)
            self.assertEqual(raised(InvalidRow, call, pact, "a", ["a"]), -1)
        self.assertEqual(raised(NoName, climb_from, pact, "a", ("c",)), "a")
        self.assertEqual(raised(InvalidRow, climb_from, pact, "m", ("c",)), 0)
        self.assertEqual(raised(NoName, ladder_holds, pact, "m", (), None), "m")
        self.assertEqual(raised(InvalidRow, ladder_holds, pact, "a", (), None), -1)
        for call in (descent, row_starts):
            self.assertEqual(raised(InvalidRow, call, pact, ("a", "a")), 1)
            self.assertEqual(raised(InvalidRow, call, pact, ()), -1)


class ClimbTest(unittest.TestCase):
    def test_examples(self):
        pact = base_pact()
        self.assertEqual(climb(pact=pact, hand="a", row=("b", "a")), ("n", "o"))
        self.assertEqual(climb(pact, "a", ("a", "b")), ("m", "n"))
        self.assertEqual(climb(pact, "b", ("a", "b")), ("o", "p"))
        self.assertEqual(climb_from(pact=pact, note="o", row=("b", "a")), ("p",))
        self.assertEqual(climb_from(pact, "p", ("a", "b")), ())
        self.assertIs(row_holds(pact=pact, hand="b", row=("a", "b")), True)
        self.assertIs(row_holds(base_pact("n o"), "b", ("a", "b")), False)
        self.assertEqual(descent(pact=pact, row=("a", "b")), ("o", "p"))
        self.assertEqual(row_starts(pact=pact, row=("a", "b")), ("m", "n", "o"))
        self.assertIs(ladder_holds(pact=pact, hand="b", row=("a", "b"), value=("o", "p")), True)
        self.assertEqual(row_moments(pact=pact, hand="a", row=("a", "b")), ((), ()))
        self.assertEqual(row_moments(pact, "b", ("a", "b")), (("m",), ("m", "n")))

    def test_against_the_words(self):
        holds = fails = 0
        for pact in small_pacts(71, 80, hands=(2, 4), notes=(3, 9), density=(0.2, 0.5, 0.8)):
            for row in all_rows(pact.hands):
                for note in pact.names:
                    self.assertEqual(climb_from(pact, note, row), naive_climb(pact, note, row))
                for hand in pact.hands:
                    notes = naive_climb(pact, ready_note(pact, hand), row)
                    self.assertEqual(climb(pact, hand, row), notes)
                    whole = len(notes) == len(row) and lies_under(pact, notes[-1], key_note(pact, row[-1]))
                    self.assertEqual(row_holds(pact, hand, row), whole)
                    holds, fails = holds + whole, fails + (not whole)
        self.assertGreater(min(holds, fails), 300)

    def test_forty_notes_and_six_hands(self):
        pact = chain_pact(tuple("abcdef"), 40)
        names = note_names(40)
        self.assertEqual(climb(pact, "a", tuple("fedcba")), tuple(names[at] for at in (5, 10, 15, 20, 25, 30)))
        self.assertTrue(row_holds(pact, "f", tuple("edcba")))
        self.assertEqual(climb_from(pact, names[38], tuple("edcba")), ())
        self.assertEqual(descent(pact, tuple("abcdef")), names[30:36])
        self.assertEqual(row_starts(pact, tuple("fedcba")), names[:12])


class LadderTest(unittest.TestCase):
    def test_no_ladders(self):
        pact = base_pact()
        for value in (None, True, "op", ["o", "p"], (), ("o",), ("o", "p", "p"), ("p", "o"), ("o", "x"), ("o", None),
                      (["o"], "p"), ("m", "n"), ("m", "p"), ("o", "o"), ("a", "b"), (pact, "p")):
            self.assertIs(ladder_holds(pact, "b", ("a", "b"), value), False, value)
        # Above the key note.
        self.assertIs(ladder_holds(base_pact("n o"), "b", ("a", "b"), ("o", "p")), False)
        self.assertIs(ladder_holds(pact, "a", ("a", "b"), ("m", "p")), True)

    def test_ladders_and_descents(self):
        for pact in small_pacts(72, 60, hands=(2, 3), notes=(3, 7), density=(0.2, 0.5, 0.8)):
            owners = owners_of(pact)
            for row in all_rows(pact.hands):
                down = self.naive_descent(pact, row)
                self.assertEqual(descent(pact, row), down)
                starts = row_starts(pact, row)
                below = [name for name in sorted(pact.names) if down and lies_under(pact, name, down[0])]
                self.assertEqual(starts, tuple(below))
                for hand in pact.hands:
                    found = ladders(pact, hand, row)
                    self.assertEqual(row_holds(pact, hand, row), bool(found))
                    self.assertEqual(bool(found), ready_note(pact, hand) in starts)
                    up = climb(pact, hand, row)
                    for notes in itertools.product(sorted(pact.names), repeat=len(row)):
                        expected = notes in found
                        self.assertEqual(ladder_holds(pact, hand, row, notes), expected)
                        if expected:
                            self.assertEqual([owners[name] for name in notes], list(row))
                            self.assertTrue(all(map(lies_under, [pact] * len(row), up, notes)))
                            self.assertTrue(all(map(lies_under, [pact] * len(row), notes, down)))
                for note in pact.names:
                    notes = climb_from(pact, note, row)
                    fine = len(notes) == len(row) and lies_under(pact, notes[-1], key_note(pact, row[-1]))
                    self.assertEqual(fine, note in starts)

    def naive_descent(self, pact, row):
        notes = [key_note(pact, row[-1])]
        for hand in row[-2::-1]:
            notes.insert(0, last_note(pact, hand, notes[0]))
            if notes[0] is None:
                return None
        return tuple(notes)


class RowMomentsTest(unittest.TestCase):
    def test_against_the_words(self):
        for pact in small_pacts(73, 80, hands=(2, 4), notes=(3, 8), density=(0.2, 0.5, 0.8)):
            for row in all_rows(pact.hands):
                for hand in pact.hands:
                    self.check(pact, hand, row)

    def check(self, pact, hand, row):
        found = row_moments(pact, hand, row)
        notes = (ready_note(pact, hand),) + climb(pact, hand, row)
        self.assertEqual(len(found), min(len(row), len(notes)))
        for moment, note in zip(found, notes):
            self.assertEqual(moment, tuple(name for name in sorted(pact.names) if not lies_under(pact, note, name)))
            self.assertIs(need_moment(pact, moment), moment)
        for one, other, owner in zip(found, found[1:], row):
            self.assertLessEqual(set(one), set(other))
            own = set(notes_of(pact, owner))
            self.assertEqual(own & set(one), own & set(other))
        fine = len(found) == len(row) and key_note(pact, row[-1]) not in found[-1]
        self.assertEqual(row_holds(pact, hand, row), fine)

    def test_climbs_that_end_early(self):
        notes = [("m", "a", ()), ("n", "b", ()), ("o", "c", ("m",))]
        pact = Pact(["a", "b", "c"], notes, ["m", "n", "o"], ("m", "n", "o"))
        self.assertIsNone(next_note(pact, "a", "n"))
        self.assertEqual(climb(pact, "b", ("a", "b", "c")), ())
        self.assertEqual(row_moments(pact, "b", ("a", "b", "c")), (("m", "o"),))
        self.assertEqual(row_moments(pact, "a", ("c", "b")), (("n",), ("m", "n")))
        self.assertIsNone(descent(pact, ("b", "a")))
        self.assertEqual(row_starts(pact, ("b", "a")), ())
        self.assertEqual(row_starts(pact, ("a", "c")), ("m",))


if __name__ == "__main__":
    unittest.main()
