"""[54], [55] and [56]: notes and waits that can go, thin notes and bones."""

import random
import unittest

from boundorvoid.court import Just, court, highest_level
from boundorvoid.errors import InvalidFamily, NoName, Refused
from boundorvoid.families import all_lots, sized_family
from boundorvoid.forms import bare_waits
from boundorvoid.needless import bone_pact, dropped_pact, loosened_pact, thin_notes, tight_fault, tight_pact
from boundorvoid.pacts import Pact, hand_of, key_note, lies_under, notes_of, ready_note, whole_paper
from boundorvoid.texts import read_pact

from tests.helpers import all_families, base_pact, chain_pact, close_pacts, raised, small_pacts, subsets

ONE_LIES = (("a",), ("b",))


def just_pacts(seed, many, **sizes):
    """Just pacts with families."""
    rng = random.Random(seed)
    for pact in close_pacts(seed, many, **sizes) + [base_pact(), chain_pact(tuple("cab"), 9), chain_pact(("b", "a"), 7)]:
        for family in rng.sample(all_families(pact.hands), 3):
            if isinstance(court(pact, family), Just):
                yield pact, family


def naive_dropped(pact, lot):
    left = [(name, hand, tuple(sorted(other for other in pact.names if other not in lot and other != name and
                                      lies_under(pact, other, name))))
            for name, hand, _ in pact.notes if name not in lot]
    return Pact(pact.hands, left, pact.ready, tuple(name for name in whole_paper(pact) if name not in lot))


def naive_loosened(pact, note, wait):
    notes = [(name, hand, tuple(sorted(other for other in pact.names if other != name and
                                       lies_under(pact, other, name) and (name, other) != (note, wait))))
             for name, hand, _ in pact.notes]
    return Pact(pact.hands, notes, pact.ready, whole_paper(pact))


def can_drop(pact, family, note):
    try:
        return isinstance(court(dropped_pact(pact, (note,)), family), Just)
    except Refused:
        return False


def naive_fault(pact, family):
    for note in pact.names:
        if can_drop(pact, family, note):
            return (note,)
    for note in pact.names:
        for wait in bare_waits(pact, note):
            if isinstance(court(loosened_pact(pact, note, wait), family), Just):
                return note, wait
    return None


class DroppedTest(unittest.TestCase):
    def test_against_the_words(self):
        words = []
        for pact in small_pacts(340, 60, notes=(4, 7)) + close_pacts(340, 30, notes=(5, 7)):
            for lot in subsets(sorted(pact.names))[::3]:
                left = set(whole_paper(pact)) - set(lot)
                if set(lot) & set(pact.ready):
                    word = "ready"
                elif {hand_of(pact, note) for note in left} != set(pact.hands):
                    word = "paper"
                else:
                    self.assertEqual(dropped_pact(pact, lot), naive_dropped(pact, lot))
                    words.append(None)
                    continue
                self.assertEqual(raised(Refused, dropped_pact, pact, lot), word)
                words.append(word)
        self.assertGreater(min(map(words.count, ("ready", "paper", None))), 5)

    def test_edges_and_errors(self):
        pact = base_pact()
        self.assertEqual(dropped_pact(pact=pact, lot=()), naive_dropped(pact, ()))
        self.assertEqual(dropped_pact(pact, ("p",)).paper, ("m", "n", "o"))
        self.assertEqual(raised(NoName, dropped_pact, pact, ("m", "x", "y")), "x")
        self.assertEqual(raised(NoName, dropped_pact, pact, ("a",)), "a")
        other = Pact(("a", "b"), pact.notes, ("o", "n"), ("m", "n"))
        self.assertEqual(raised(Refused, dropped_pact, other, ("m",)), "paper")
        self.assertEqual(raised(Refused, dropped_pact, other, ("m", "o")), "ready")

    def test_what_comes_is_no_better(self):
        rng, justs = random.Random(341), 0
        for pact in close_pacts(341, 80):
            for family in rng.sample(all_families(pact.hands), 2):
                for note in pact.names:
                    if note not in pact.ready and can_drop(pact, family, note):
                        self.assertIsInstance(court(pact, family), Just)
                        justs += 1
                    for wait in bare_waits(pact, note):
                        if isinstance(court(loosened_pact(pact, note, wait), family), Just):
                            self.assertIsInstance(court(pact, family), Just)
                            justs += 1
        self.assertGreater(justs, 100)


class LoosenedTest(unittest.TestCase):
    def test_against_the_words(self):
        bare, other_waits = 0, 0
        for pact in small_pacts(342, 30) + close_pacts(342, 30):
            for note in pact.names:
                for wait in pact.names:
                    if wait not in bare_waits(pact, note):
                        self.assertEqual(raised(Refused, loosened_pact, pact, note, wait), "wait")
                        other_waits += 1
                        continue
                    loosened = loosened_pact(pact, note, wait)
                    self.assertEqual(loosened, naive_loosened(pact, note, wait))
                    for one in pact.names:
                        for other in pact.names:
                            expected = lies_under(pact, one, other) and (one, other) != (wait, note)
                            self.assertEqual(lies_under(loosened, one, other), expected)
                    bare += 1
        self.assertGreater(min(bare, other_waits), 150)

    def test_errors(self):
        pact = base_pact()
        self.assertEqual(raised(NoName, loosened_pact, pact, "x", "y"), "x")
        self.assertEqual(raised(NoName, loosened_pact, pact, "m", "y"), "y")
        self.assertEqual(raised(Refused, loosened_pact, pact, "m", "m"), "wait")
        self.assertEqual(raised(Refused, loosened_pact, pact, "o", "m"), "wait")
        self.assertEqual(loosened_pact(pact=pact, note="p", wait="o").notes[3], ("p", "b", ("m", "n")))


class ThinTest(unittest.TestCase):
    def turning(self, pact, family):
        hands = tuple(sorted(pact.hands))
        return {(lot, hand): notes_of(pact, hand)[highest_level(pact, lot, hand)]
                for lot in all_lots(family) if lot != hands for hand in lot}

    def naive_bone(self, pact, family):
        turning = self.turning(pact, family)
        told = {}
        for (lot, hand), note in turning.items():
            rest = tuple(other for other in lot if other != hand)
            told.setdefault(note, set()).update([turning[(rest, other)] for other in rest] if rest else pact.ready)
        for hand in pact.hands:
            keys = told.setdefault(key_note(pact, hand), set())
            keys.update(pact.ready)
            keys.update(note for (lot, _), note in turning.items() if hand not in lot)
        names = thin_notes(pact, family)
        notes = [(name, hand, tuple(sorted(told.get(name, set()) - {name})))
                 for name, hand, _ in pact.notes if name in names]
        return Pact(pact.hands, notes, pact.ready, tuple(sorted(key_note(pact, hand) for hand in pact.hands)))

    def test_against_the_words(self):
        many = 0
        for pact, family in just_pacts(343, 250, hands=(2, 4), notes=(5, 14)):
            turning = self.turning(pact, family)
            keys = [key_note(pact, hand) for hand in pact.hands]
            thin = thin_notes(pact, family)
            self.assertEqual(thin, tuple(sorted(set(pact.ready) | set(keys) | set(turning.values()))))
            bone = bone_pact(pact, family)
            self.assertEqual(bone, self.naive_bone(pact, family))
            less = dropped_pact(pact, tuple(sorted(set(pact.names) - set(thin))))
            for other in (bone, less):
                self.assertIsInstance(court(other, family), Just)
                self.assertEqual(self.turning(other, family), turning)
            size = len(pact.hands)
            if family == ((),):
                self.assertLessEqual(len(thin), 2 * size)
            if family == sized_family(tuple(sorted(pact.hands)), 1):
                self.assertLessEqual(len(thin), 3 * size)
            many += len(thin) < len(pact.names)
        self.assertGreater(many, 30)

    def test_the_numbers_of_the_document(self):
        for size in range(2, 7):
            hands = tuple("abcdef"[:size])
            pact = chain_pact(hands, 40)
            self.assertEqual(len(thin_notes(pact, ((),))), 2 * size)
            # The last ready note is the one to which its hand climbs.
            self.assertEqual(len(thin_notes(pact, sized_family(hands, 1))), 3 * size - 1)

    def test_a_first_note_that_is_not_thin(self):
        chain = chain_pact(("a", "b"), 8)
        pact = Pact(chain.hands, chain.notes, ("ac", "ad"), chain.paper)
        for family in (((),), (("a",),), (("b",),)):
            self.assertNotIn("aa", thin_notes(pact, family))
            self.assertEqual(bone_pact(pact, family), self.naive_bone(pact, family))

    def test_a_family_of_all_hands(self):
        pact = chain_pact(("a", "b"), 6)
        self.assertEqual(thin_notes(pact=pact, family=(("a", "b"),)), thin_notes(pact, ONE_LIES))
        self.assertEqual(bone_pact(pact=pact, family=(("a", "b"),)), self.naive_bone(pact, (("a", "b"),)))

    def test_torn_pacts(self):
        for call in (thin_notes, bone_pact, tight_fault, tight_pact):
            self.assertEqual(raised(Refused, call, base_pact("n"), ONE_LIES), "torn")
            self.assertEqual(raised(InvalidFamily, call, base_pact("n"), (("c",),)), 0)
            self.assertEqual(raised(InvalidFamily, call, base_pact("n"), None), -1)
            call(pact=base_pact(), family=ONE_LIES)


class TightTest(unittest.TestCase):
    def test_faults(self):
        sizes = []
        for pact, family in just_pacts(344, 120, notes=(5, 9)):
            fault = tight_fault(pact, family)
            self.assertEqual(fault, naive_fault(pact, family))
            sizes.append(fault and len(fault))
        self.assertGreater(min(map(sizes.count, (1, 2))), 3)

    def test_again_and_again(self):
        kinds = []
        for pact, family in just_pacts(345, 120, notes=(5, 9)):
            expected, fault = pact, naive_fault(pact, family)
            while fault is not None:
                kinds.append(len(fault))
                expected = dropped_pact(expected, fault) if len(fault) == 1 else loosened_pact(expected, *fault)
                fault = naive_fault(expected, family)
            found = tight_pact(pact, family)
            self.assertEqual(found, expected)
            if found == pact:
                self.assertEqual(tight_fault(pact, family), None)
            self.assertIsNone(tight_fault(found, family))
            self.assertEqual(tight_pact(found, family), found)
            self.assertEqual(thin_notes(found, family), tuple(sorted(found.names)))
            if family == ((),):
                self.assertIn(len(found.names), (2 * len(pact.hands), 2 * len(pact.hands) - 1))
        self.assertGreater(min(map(kinds.count, (1, 2))), 30)

    def test_what_cannot_go_cannot_go_later(self):
        many = 0
        for pact, family in just_pacts(346, 80, notes=(5, 8)):
            fault = tight_fault(pact, family)
            if fault is None:
                continue
            less = dropped_pact(pact, fault) if len(fault) == 1 else loosened_pact(pact, *fault)
            for note in less.names:
                if not can_drop(pact, family, note):
                    self.assertFalse(can_drop(less, family, note))
                    many += 1
                for wait in set(bare_waits(less, note)) & set(bare_waits(pact, note)):
                    if not isinstance(court(loosened_pact(pact, note, wait), family), Just):
                        self.assertNotIsInstance(court(loosened_pact(less, note, wait), family), Just)
                        many += 1
        self.assertGreater(many, 50)

    def test_ready_notes_and_papers_stop_a_note(self):
        pact = Pact(("a", "b"), (("m", "a", ()), ("n", "b", ("m",)), ("o", "a", ("n",))), ("m", "n"), ("n", "o"))
        self.assertIsInstance(court(pact, ((),)), Just)
        self.assertIsNone(tight_fault(pact, ((),)))
        self.assertIs(tight_pact(pact, ((),)), pact)
        longer = Pact(("a", "b"), (*pact.notes, ("p", "b", ())), ("m", "n"), ("n", "o"))
        self.assertEqual(tight_fault(longer, ((),)), ("p",))
        self.assertEqual(tight_pact(longer, ((),)), naive_dropped(longer, ("p",)))
        # The pact itself is left as it is told, also if it could be told with other waits.
        told = Pact(("a", "b"), (("m", "a", ()), ("n", "b", ("m",)), ("o", "a", ("m", "n"))), ("m", "n"), ("o",))
        self.assertIs(tight_pact(told, ((),)), told)

    def test_a_wait_that_was_not_bare(self):
        notes = (("l", "a", ()), ("m", "a", ()), ("n", "b", ("m",)), ("o", "a", ("n",)), ("p", "b", ("o",)))
        pact = Pact(("a", "b"), notes, ("l", "n"), ("n", "o"))
        self.assertEqual(tight_fault(pact, ((),)), naive_fault(pact, ((),)))
        found = tight_pact(pact, ((),))
        self.assertIsNone(naive_fault(found, ((),)))
        self.assertTrue(all(ready_note(found, hand) in found.names for hand in "ab"))

    def test_waits_go_by_told_order(self):
        rows = ["hands y d c", "note at y", "note aa d at", "note az c aa", "note ay y az", "note ak d ay",
                "note bg c ak", "note aj y bg", "note ax d aj", "ready at aa az", "paper aj at ax bg"]
        pact, family = read_pact("\n".join(rows)), (("c", "y"), ("d",))
        expected, fault = pact, naive_fault(pact, family)
        while fault is not None:
            expected = dropped_pact(expected, fault) if len(fault) == 1 else loosened_pact(expected, *fault)
            fault = naive_fault(expected, family)
        self.assertEqual(tight_pact(pact, family), expected)

    def test_six_hands_and_forty_notes(self):
        hands = tuple("abcdef")
        pact = chain_pact(hands, 40)
        for family in (((),), sized_family(hands, 1), (hands,)):
            found = tight_pact(pact, family)
            self.assertIsNone(tight_fault(found, family))
            self.assertIsInstance(court(found, family), Just)
        self.assertIn(len(tight_pact(pact, ((),)).names), (11, 12))


if __name__ == "__main__":
    unittest.main()
