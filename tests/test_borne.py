"""[37] to [40]: failing rows, what a pact bears, and what shows it."""

import itertools
import random
import unittest

from boundorvoid.borne import bears_lot, borne_holds, borne_paper, failing_rows, greatest_family, least_barred
from boundorvoid.borne import least_meets, liars_borne, trusted_lots, wronged_by
from boundorvoid.climbs import row_holds
from boundorvoid.court import Just, Torn, court, highest_level
from boundorvoid.errors import NoName
from boundorvoid.families import all_lots, barred_lots, family_barring, in_family, sized_family
from boundorvoid.heights import level_of
from boundorvoid.pacts import key_note

from tests.helpers import all_families, all_rows, base_pact, chain_pact, close_pacts, loose_pact, raised
from tests.helpers import small_pacts, subsets


def tried(seed, many, **sizes):
    return small_pacts(seed, many, **sizes) + close_pacts(seed, many * 2, **sizes) + [
        base_pact(), base_pact("n"), chain_pact(tuple("cab"), 9)]


def sized(lots):
    return tuple(sorted(lots, key=lambda lot: (len(lot), lot)))


def is_part(row, other):
    """Whether a row is left of another one if some hands are left out."""
    rest = iter(other)
    return all(hand in rest for hand in row)


def naive_borne(pact):
    return [lot for lot in subsets(sorted(pact.hands)) if isinstance(court(pact, (lot,)), Just)]


class RowsTest(unittest.TestCase):
    def test_against_the_words(self):
        sizes = []
        for pact in tried(260, 40, hands=(2, 4), notes=(4, 9)):
            expected = []
            for row in all_rows(pact.hands):
                for hand in sorted(pact.hands):
                    shorter = [row[:at] + row[at + 1:] for at in range(len(row))]
                    if not row_holds(pact, hand, row) and all(row_holds(pact, hand, one) for one in shorter if one):
                        expected.append((hand, row))
            found = failing_rows(pact)
            self.assertEqual(found, tuple(expected))
            sizes += [len(row) for _, row in found]
            for row in all_rows(pact.hands):
                for hand in pact.hands:
                    parts = [one for other, one in found if other == hand and is_part(one, row)]
                    self.assertEqual(not row_holds(pact, hand, row), bool(parts))
        self.assertGreater(min(map(sizes.count, (1, 2, 3))), 15)

    def test_six_hands(self):
        hands = tuple("abcdef")
        self.assertEqual(failing_rows(chain_pact(hands, 40)), ())
        found = failing_rows(chain_pact(hands, 24))
        self.assertTrue(found and len({len(row) for _, row in found}) > 1)
        self.assertEqual(list(found), sorted(found, key=lambda pair: (len(pair[1]), pair[1], pair[0])))


class BorneTest(unittest.TestCase):
    def test_lots_and_families(self):
        families = []
        for pact in tried(261, 30):
            borne = naive_borne(pact)
            for lot in subsets(sorted(pact.hands)):
                self.assertIs(bears_lot(pact, lot), lot in borne)
            family = greatest_family(pact)
            families.append(family)
            self.assertEqual(family is None, not borne)
            if borne:
                self.assertEqual(sized(borne), all_lots(family))
            for other in all_families(pact.hands):
                just = isinstance(court(pact, other), Just)
                self.assertEqual(just, all(lot in borne for lot in all_lots(other)))
            self.check_barred(pact, family, borne)
        self.assertGreater(min(families.count(None), len(set(families)) - 3), 3)

    def check_barred(self, pact, family, borne):
        hands = tuple(sorted(pact.hands))
        barred = least_barred(pact)
        if family is None:
            self.assertEqual(barred, ((),))
        else:
            self.assertEqual(barred, barred_lots(hands, family))
        self.assertEqual(family_barring(hands, barred), family)
        heads = {tuple(sorted(row[:-1])) for _, row in failing_rows(pact)}
        self.assertEqual(barred, sized(lot for lot in heads if not any(set(one) < set(lot) for one in heads)))

    def test_wronged(self):
        alone = 0
        for pact in tried(262, 30, hands=(2, 4), notes=(4, 9)):
            borne = naive_borne(pact)
            for lot in subsets(sorted(pact.hands)):
                expected = []
                for hand in sorted(set(pact.hands) - set(lot)):
                    rows = [head + (hand,) for head in itertools.permutations(lot)]
                    if any(not row_holds(pact, start, row) for row in rows for start in pact.hands):
                        expected.append(hand)
                    level = highest_level(pact, tuple(sorted(lot + (hand,))), hand)
                    self.assertEqual(hand in expected, level > level_of(pact, key_note(pact, hand)))
                self.assertEqual(wronged_by(pact, lot), tuple(expected))
                parts = [part for part in subsets(lot) if wronged_by(pact, part)]
                self.assertEqual(lot in borne, not parts)
                alone += lot not in borne and not expected
        self.assertGreater(alone, 20)

    def test_names(self):
        pact = base_pact()
        for call in (bears_lot, wronged_by):
            self.assertEqual(raised(NoName, call, pact, ("a", "c", "d")), "c")
            self.assertEqual(raised(NoName, call, pact, ("m",)), "m")
        self.assertIs(bears_lot(pact=pact, lot=("a", "b")), True)
        self.assertEqual(wronged_by(pact=base_pact("n"), lot=()), ("a",))

    def test_a_pact_that_bears_nothing(self):
        pact = loose_pact((2, 2))
        self.assertIsNone(greatest_family(pact))
        self.assertEqual((least_barred(pact), trusted_lots(pact), liars_borne(pact)), (((),), (), -1))
        self.assertIs(bears_lot(pact, ()), False)
        self.assertEqual(borne_paper(pact), (None, (Torn("b", ("a",)),)))
        self.assertTrue(borne_holds(pact, borne_paper(pact)))

    def test_six_hands(self):
        hands = tuple("abcdef")
        pact = chain_pact(hands, 40)
        self.assertEqual(greatest_family(pact), (hands,))
        self.assertEqual((liars_borne(pact), least_barred(pact), trusted_lots(pact)), (6, (), ((),)))
        pact = chain_pact(hands, 22)
        self.assertEqual(liars_borne(pact), 2)
        self.assertTrue(borne_holds(pact, borne_paper(pact)))


class MeetsTest(unittest.TestCase):
    def test_edges(self):
        self.assertEqual(least_meets([]), ((),))
        self.assertEqual(least_meets(()), ((),))
        self.assertEqual(least_meets([()]), ())
        self.assertEqual(least_meets([("a",), (), ("b",)]), ())
        self.assertEqual(least_meets(lots=[("x", "y"), ("y", "z"), ("x", "y")]), (("y",), ("x", "z")))

    def test_against_the_words(self):
        rng = random.Random(263)
        names = "pqrsxy"
        for _ in range(150):
            lots = [tuple(sorted(rng.sample(names, rng.choice((0, 1, 2, 2, 3, 4))))) for _ in range(rng.randrange(7))]
            meets = [lot for lot in subsets(names) if all(set(lot) & set(one) for one in lots)]
            least = sized(lot for lot in meets if not any(set(one) < set(lot) for one in meets))
            self.assertEqual(least_meets(lots), least)
            self.assertEqual(least_meets(least), sized({lot for lot in lots if not any(
                set(one) < set(lot) for one in lots)}))


class TrustedTest(unittest.TestCase):
    def test_against_the_words(self):
        many = []
        for pact in tried(264, 40):
            hands = sorted(pact.hands)
            borne = naive_borne(pact)
            rest = {lot: tuple(hand for hand in hands if hand not in lot) for lot in subsets(hands)}
            trusted = [lot for lot in rest if rest[lot] in borne and not any(
                rest[tuple(hand for hand in lot if hand != left)] in borne for left in lot)]
            self.assertEqual(trusted_lots(pact), sized(trusted))
            if borne:
                self.assertEqual(trusted_lots(pact), sized(rest[lot] for lot in greatest_family(pact)))
                self.assertEqual(trusted_lots(pact), least_meets(least_barred(pact)))
            sizes = [size for size in range(len(hands) + 1)
                     if all(lot in borne for lot in itertools.combinations(hands, size))]
            greatest = max(sizes, default=-1)
            self.assertEqual(liars_borne(pact), greatest)
            shortest = [len(row) for _, row in failing_rows(pact)]
            self.assertEqual(greatest, min(shortest) - 2 if shortest else len(hands))
            self.assertNotEqual(greatest, len(hands) - 1)
            many.append(greatest)
            if greatest >= 0:
                self.assertIsInstance(court(pact, sized_family(tuple(hands), greatest)), Just)
        self.assertGreater(min(map(many.count, (-1, 0))), 5)


class PaperTest(unittest.TestCase):
    def test_against_the_words(self):
        for pact in tried(265, 40):
            family, papers = borne_paper(pact)
            self.assertEqual(family, greatest_family(pact))
            torn = papers
            if family is not None:
                self.assertEqual(papers[0], court(pact, family))
                torn = papers[1:]
            self.assertEqual(torn, tuple(court(pact, (lot,)) for lot in least_barred(pact)))
            for lot, one in zip(least_barred(pact), torn):
                self.assertEqual(tuple(sorted(one.row[:-1])), lot)
            self.assertIs(borne_holds(pact, (family, papers)), True)
            self.check_other_families(pact, family, papers)

    def check_other_families(self, pact, family, papers):
        for other in all_families(pact.hands)[::3] + [None]:
            if other != family:
                self.assertIs(borne_holds(pact, (other, papers)), False)
                lots = ((),) if other is None else barred_lots(tuple(sorted(pact.hands)), other)
                told = tuple(court(pact, (lot,)) for lot in lots)
                self.assertIs(borne_holds(pact, (other, told if other is None else (court(pact, other),) + told)), False)

    def test_changed_at_one_place(self):
        torns = 0
        for pact in tried(266, 25):
            family, papers = borne_paper(pact)
            for at, paper in enumerate(papers):
                for other in (None, (), papers[0], papers[-1], papers[at - 1]):
                    changed = papers[:at] + (other,) + papers[at + 1:]
                    self.assertIs(borne_holds(pact, (family, changed)), changed == papers)
                self.assertIs(borne_holds(pact, (family, papers[:at] + papers[at + 1:])), False)
                self.assertIs(borne_holds(pact, (family, papers + (paper,))), False)
                if isinstance(paper, Torn):
                    torns += 1
                    for hand, row in itertools.product(pact.hands, all_rows(pact.hands)):
                        changed = papers[:at] + (Torn(hand, row),) + papers[at + 1:]
                        lot = tuple(sorted(paper.row[:-1]))
                        expected = tuple(sorted(row[:-1])) == lot and not row_holds(pact, hand, row)
                        self.assertIs(borne_holds(pact, (family, changed)), expected)
        self.assertGreater(torns, 60)

    def test_values_of_other_forms(self):
        pact = base_pact("o")
        family, papers = value = borne_paper(pact)
        self.assertEqual(family, (("b",),))
        self.assertIs(borne_holds(pact=pact, value=value), True)
        just, torn = papers[0], papers[1]
        for other in (None, True, (), [family, papers], (family,), value + (None,), (family, list(papers)), "paper",
                      (list(family), papers), ((), papers), (None, papers), (((),), None), pact, 1, (family, ()),
                      ([()], papers), ((("c",),), papers), ((("a",), ()), papers), (False, papers), (family, just)):
            self.assertIs(borne_holds(pact, other), False, other)
        for row in (list(torn.row), None, torn.row * 2, (), "ab", (torn.row,), (None, "b"), 1, pact):
            self.assertIs(borne_holds(pact, (family, (just, Torn(torn.hand, row)) + papers[2:])), False)
        for hand in (None, "c", ["b"], 1, pact):
            self.assertIs(borne_holds(pact, (family, (just, Torn(hand, torn.row)) + papers[2:])), False)
        lot, hand, level = just.table[0]
        for wrong in ((lot, hand, bool(level)), (list(lot), hand, level), [lot, hand, level], (lot, hand, 9)):
            self.assertIs(borne_holds(pact, (family, (Just((wrong,) + just.table[1:]),) + papers[1:])), False)
        self.assertIs(borne_holds(pact, (family, (Just(list(just.table)),) + papers[1:])), False)

    def test_rows_of_others_and_a_whole_family(self):
        pact = base_pact()
        self.assertEqual(borne_paper(pact), ((("a", "b"),), (court(pact, (("a", "b"),)),)))
        self.assertTrue(borne_holds(pact, borne_paper(pact)))
        self.assertTrue(in_family(greatest_family(pact), ()))


if __name__ == "__main__":
    unittest.main()
