"""[60]: beats."""

import itertools
import random
import time
import unittest

from boundorvoid.court import Just, court, court_rows
from boundorvoid.errors import InvalidRow, Refused
from boundorvoid.families import sized_family
from boundorvoid.pacts import Pact, hand_of, under_of, whole_paper
from boundorvoid.rounds import beats_front, beats_just, beats_pact, early_beats, fewest_beats

from tests.helpers import all_families, base_pact, close_pacts, naive_under, note_names, raised, small_pacts, subsets

TWO, THREE = ("a", "b"), ("a", "b", "c")


def all_beats(hands, most):
    """All beats of at most so many lots."""
    lots = [lot for lot in subsets(hands) if lot]
    return [beats for many in range(most + 1) for beats in itertools.product(lots, repeat=many)]


def count(beats):
    return sum(map(len, beats))


class BeatsPactTest(unittest.TestCase):
    def test_an_example(self):
        pact = beats_pact(TWO, (("a", "b"), ("b",), ("a", "b")))
        notes = (("aa", "a", ()), ("ab", "b", ()), ("ac", "b", ("aa", "ab")), ("ad", "a", ("aa", "ab", "ac")),
                 ("ae", "b", ("aa", "ab", "ac")))
        self.assertEqual(pact, Pact(TWO, notes, ("aa", "ab"), ("aa", "ab", "ac", "ad", "ae")))

    def test_against_the_words(self):
        rng = random.Random(600)
        for _ in range(60):
            hands = tuple(sorted(rng.sample("abcxyz", rng.randint(2, 4))))
            lots = [lot for lot in subsets(hands) if lot]
            beats = tuple(rng.choice(lots) for _ in range(rng.randint(4, 12)))
            if set().union(*beats) != set(hands) or count(beats) > 40:
                continue
            pact = beats_pact(hands, beats)
            names = iter(note_names(40))
            told, ahead = [], []
            for beat in beats:
                now = [(next(names), hand, tuple(ahead)) for hand in beat]
                told.extend(now)
                ahead = ahead + [name for name, _, _ in now]
            self.assertEqual(pact.notes, tuple(told))
            self.assertEqual(pact.hands, hands)
            for hand, ready in zip(pact.hands, pact.ready):
                self.assertEqual(ready, [name for name, owner, _ in told if owner == hand][0])
            self.assertEqual(pact.paper, tuple(ahead))

    def test_forty_notes_and_more(self):
        beats = (TWO,) * 20
        self.assertEqual(beats_pact(TWO, beats).names, note_names(40))
        self.assertEqual(beats_pact(TWO, beats).names[25:27], ("az", "ba"))
        self.assertEqual(raised(Refused, beats_pact, TWO, beats + (("a",),)), "beats")
        self.assertEqual(raised(Refused, beats_pact, TWO, (("a",),) * 41), "begun")

    def test_errors(self):
        for value in (None, 3, True, "ab", [("a",), ("b",)], {}):
            self.assertEqual(raised(InvalidRow, beats_pact, TWO, value), -1)
        for wrong in ((), [], ["a"], ("b", "a"), ("a", "a"), ("c",), ("a", "c"), "a", 1, True, None, ("a", 1),
                      (["a"],), (("a",),)):
            self.assertEqual(raised(InvalidRow, beats_pact, TWO, (wrong, ("a",))), 0)
            self.assertEqual(raised(InvalidRow, beats_pact, TWO, (("a",), ("a", "b"), wrong, wrong)), 2)
            self.assertEqual(raised(InvalidRow, beats_pact, TWO, (("a",),) * 41 + (wrong,)), 41)
        for beats in ((), (("a",),), (("b",), ("b",))):
            self.assertEqual(raised(Refused, beats_pact, TWO, beats), "begun")
        self.assertEqual(beats_pact(hands=TWO, beats=(TWO,)).names, ("aa", "ab"))


class BeatsJustTest(unittest.TestCase):
    def test_exactly_if_the_court_says_so(self):
        found = []
        for hands, most in ((TWO, 5), (THREE, 3)):
            for family in all_families(hands):
                for beats in all_beats(hands, most):
                    comes = set().union(*beats) == set(hands)
                    expected = comes and isinstance(court(beats_pact(hands, beats), family), Just)
                    self.assertEqual(beats_just(hands, family, beats), expected)
                    found.append(expected)
        self.assertGreater(min(found.count(True), found.count(False)), 100)

    def test_longer_ones(self):
        rng, found = random.Random(601), []
        for _ in range(150):
            hands = tuple("abcd"[:rng.randint(3, 4)])
            beats = tuple(rng.choice([lot for lot in subsets(hands) if lot]) for _ in range(rng.randint(3, 10)))
            for family in (((),), sized_family(hands, 1), sized_family(hands, 2), (hands,)):
                if set().union(*beats) == set(hands):
                    expected = isinstance(court(beats_pact(hands, beats), family), Just)
                    self.assertEqual(beats_just(hands, family, beats), expected)
                    found.append(expected)
        self.assertGreater(min(found.count(True), found.count(False)), 100)

    def test_who_begins_last(self):
        # One hand that begins last counts at once, several do not.
        self.assertTrue(beats_just(TWO, ((),), (("a",), ("b",), ("a",))))
        self.assertFalse(beats_just(TWO, ((),), (("a", "b"), ("a",))))
        self.assertTrue(beats_just(TWO, ((),), (("a", "b"), ("a", "b"))))
        self.assertFalse(beats_just(TWO, ((),), (("a",), ("a", "b"))))

    def test_of_any_size_and_without_some_hand(self):
        self.assertTrue(beats_just(TWO, (TWO,), (TWO,) * 30))
        for beats in ((), (("a",),), (("a",),) * 60):
            self.assertIs(beats_just(TWO, ((),), beats), False)


class EarlyBeatsTest(unittest.TestCase):
    def naive_height(self, under, name):
        return max([self.naive_height(under, other) + 1 for other in under[name] - {name}], default=0)

    def test_against_the_words(self):
        torn = 0
        for pact in small_pacts(602, 120) + close_pacts(602, 120) + [base_pact()]:
            under = naive_under(pact.notes)
            heights = {name: self.naive_height(under, name) for name in whole_paper(pact)}
            expected = tuple(tuple(sorted(hand_of(pact, name) for name in heights if heights[name] == height))
                             for height in range(max(heights.values()) + 1))
            self.assertEqual(early_beats(pact), expected)
            for family in (((),), sized_family(tuple(sorted(pact.hands)), 1), (tuple(sorted(pact.hands)),)):
                if isinstance(court(pact, family), Just):
                    self.assertTrue(beats_just(tuple(sorted(pact.hands)), family, expected))
                    self.assertEqual(count(expected), len(whole_paper(pact)))
                else:
                    torn += 1
        self.assertGreater(torn, 50)

    def test_a_torn_pact(self):
        self.assertEqual(early_beats(base_pact("n")), (("a",), ("b",)))
        self.assertEqual(early_beats(base_pact("o")), (("a",), ("b",), ("a",)))
        self.assertEqual(early_beats(base_pact("p")), (("a",), ("b",), ("a",), ("b",)))


class FewestBeatsTest(unittest.TestCase):
    def naive_fewest(self, beats):
        return min(beats, key=lambda told: (count(told), len(told), told), default=None)

    def test_against_all_beats(self):
        found = 0
        for hands, most in ((TWO, 6), (THREE, 4)):
            told = all_beats(hands, most)
            for family in all_families(hands):
                just = [beats for beats in told if beats_just(hands, family, beats)]
                for many in range(most + 1):
                    expected = self.naive_fewest([beats for beats in just if len(beats) <= many])
                    self.assertEqual(fewest_beats(hands, family, many), expected)
                    found += expected is not None
        self.assertGreater(found, 20)

    def test_the_least_of_five_beats(self):
        told = [beats for beats in all_beats(THREE, 5) if len(beats) == 5]
        for family in ((("a", "c"), ("b",)), (("a",), ("b", "c"))):
            expected = self.naive_fewest([beats for beats in told if beats_just(THREE, family, beats)])
            self.assertEqual(fewest_beats(THREE, family, 5), expected)

    def test_more_hands_and_beats(self):
        for hands in (THREE, tuple("abcd")):
            for family in (((),), sized_family(hands, 1), (("a",), ("c",))):
                front = beats_front(hands, family)
                for many in range(21):
                    beats = fewest_beats(hands, family, many)
                    notes = [notes for most, notes in front if most <= many]
                    if not notes:
                        self.assertIsNone(beats)
                        continue
                    self.assertTrue(beats_just(hands, family, beats))
                    self.assertEqual(count(beats), notes[-1])
                    self.assertIn((len(beats), count(beats)), front)
        self.assertIsNone(fewest_beats(TWO, ((),), 1))
        self.assertIsNone(fewest_beats(TWO, ((),), 0))

    def test_front_of_the_document(self):
        start = time.monotonic()
        self.assertEqual(beats_front(THREE, (THREE,)), ((4, 12), (5, 11), (6, 9)))
        for n in range(2, 5):
            hands = tuple("abcd"[:n])
            self.assertEqual(beats_front(hands, ((),)), ((2, 2 * n), (3, 2 * n - 1)))
            if n > 2:
                expected = ((3, 3 * n), (4, 3 * n - 1), (5, 3 * n - 2))
                self.assertEqual(beats_front(hands, sized_family(hands, 1)), expected)
        self.assertEqual(beats_front(TWO, sized_family(TWO, 1)), ((3, 6), (4, 4)))
        self.assertLess(time.monotonic() - start, 5)

    def test_front_against_all_beats(self):
        for hands, most in ((TWO, 7), (THREE, 4)):
            told = all_beats(hands, most)
            for family in all_families(hands):
                front, fewest = [], 99
                for many in range(most + 1):
                    notes = [count(beats) for beats in told if len(beats) == many and beats_just(hands, family, beats)]
                    if notes and min(notes) < fewest:
                        fewest = min(notes)
                        front.append((many, fewest))
                self.assertEqual([pair for pair in beats_front(hands, family) if pair[0] <= most], front)

    def test_the_first_has_one_beat_more_than_the_longest_row(self):
        for hands in (TWO, THREE):
            for family in all_families(hands):
                pact = beats_pact(hands, (hands,) * 6)
                longest = max(map(len, court_rows(pact, family)))
                self.assertEqual(beats_front(hands, family)[0][0], longest + 1)
        self.assertEqual(under_of(beats_pact(TWO, (TWO, TWO)), "ac"), ("aa", "ab", "ac"))


if __name__ == "__main__":
    unittest.main()
