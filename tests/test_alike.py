"""[81] and [82]: walks, and pacts that are alike."""

import itertools
import random
import time
import unittest

from boundorvoid.alike import longest_walk, rows_apart, walk_apart, walk_note
from boundorvoid.climbs import row_holds
from boundorvoid.court import Torn, court
from boundorvoid.errors import InvalidRow, NoName, Refused
from boundorvoid.forms import bare_form, full_form, retold_pact
from boundorvoid.heights import next_note
from boundorvoid.pacts import Pact, ready_note, whole_paper

from tests.helpers import all_families, all_rows, base_pact, chain_pact, close_pacts, raised, small_pacts


def naive_walk(pact, hand, walk):
    note, whole = ready_note(pact, hand), whole_paper(pact)
    for other in walk:
        if note not in whole:
            return None
        note = next_note(pact, other, note)
    return note if note in whole else None


def all_walks(pact, most, twice=False):
    """All walks of at most so many hands, without or with a hand twice running."""
    walks, ends = [()], [()]
    for _ in range(most):
        ends = [walk + (hand,) for walk in ends for hand in sorted(pact.hands)
                if twice or not walk or walk[-1] != hand]
        walks += ends
    return walks


def turned(pact):
    """The pact with its hands told in another order."""
    return Pact(pact.hands[::-1], pact.notes, pact.ready[::-1], pact.paper)


def pairs(seed, many, **sizes):
    """Pairs of pacts of the same hands, some of them alike."""
    rng, groups = random.Random(seed), {}
    for pact in small_pacts(seed, many, **sizes) + close_pacts(seed, 3 * many, notes=(4, 8)):
        groups.setdefault(tuple(sorted(pact.hands)), []).append(pact)
    for hands, pacts in sorted(groups.items()):
        for one in pacts:
            yield one, turned(rng.choice([bare_form(one), full_form(one), rng.choice(pacts)]))
            yield one, rng.choice(pacts)
            # Another paper changes little.
            keys = [name for name in whole_paper(one) if name not in one.paper]
            paper = tuple(sorted({*one.paper, *keys[:1], *rng.sample(one.names, 1)}))
            yield one, Pact(one.hands, one.notes, one.ready, paper)


class WalkTest(unittest.TestCase):
    def test_against_the_words(self):
        found = []
        for pact in small_pacts(810, 40) + close_pacts(810, 40):
            for hand in pact.hands:
                for walk in all_walks(pact, 4, twice=True):
                    expected = naive_walk(pact, hand, walk)
                    self.assertEqual(walk_note(pact, hand, walk), expected)
                    found.append(expected is None)
                    if expected is not None:
                        # What holds, holds without any of its hands; a hand twice running does nothing.
                        for at in range(len(walk)):
                            self.assertIsNotNone(walk_note(pact, hand, walk[:at] + walk[at + 1:]))
                            self.assertEqual(walk_note(pact, hand, walk[:at] + walk[at:at + 1] * 2 + walk[at + 1:]),
                                             expected)
                for row in all_rows(pact.hands):
                    self.assertEqual(walk_note(pact, hand, row) is not None, row_holds(pact, hand, row))
        self.assertGreater(min(found.count(True), found.count(False)), 500)

    def test_edges(self):
        pact = base_pact()
        self.assertEqual(walk_note(pact, "b", ()), "n")
        self.assertEqual(walk_note(pact=pact, hand="a", walk=("b", "b", "a", "a", "b")), "p")
        self.assertIsNone(walk_note(pact, "a", ("b", "a", "b", "a")))
        self.assertEqual(walk_note(pact, "a", ("a",) * 60), "m")
        self.assertIsNone(walk_note(pact, "a", ("a", "b") * 30))
        outside = [one for one in small_pacts(811, 80) if ready_note(one, one.hands[0]) not in whole_paper(one)]
        for one in outside:
            self.assertIsNone(walk_note(one, one.hands[0], ()))
            self.assertIsNone(walk_note(one, one.hands[0], one.hands))
            self.assertIsNone(longest_walk(one, one.hands[0]))
        self.assertTrue(outside)

    def test_errors(self):
        pact = base_pact()
        self.assertEqual(raised(NoName, walk_note, pact, "x", None), "x")
        for value, at in ((None, -1), (["a"], -1), ("ab", -1), (True, -1), (("x",), 0), (("a", "b", 1), 2),
                          (("a", ["b"]), 1), (("a", None, "x"), 1), (("m",), 0), ((True,), 0)):
            self.assertEqual(raised(InvalidRow, walk_note, pact, "a", value), at)
        self.assertEqual(raised(NoName, longest_walk, pact, "x"), "x")
        # A walk that is none is told also behind a ready note outside the paper.
        self.assertEqual(raised(InvalidRow, walk_note, base_pact("m n"), "a", ("b", "x")), 1)


class LongestTest(unittest.TestCase):
    def test_against_all_walks(self):
        lengths = []
        for pact in small_pacts(812, 60) + close_pacts(812, 60, notes=(4, 7)) + [base_pact()]:
            walks = all_walks(pact, len(pact.names) + 1)
            for hand in pact.hands:
                holding = [walk for walk in walks if naive_walk(pact, hand, walk) is not None]
                expected = min(holding, key=lambda walk: (-len(walk), walk), default=None)
                self.assertEqual(longest_walk(pact, hand), expected)
                lengths.append(-1 if expected is None else len(expected))
        self.assertGreater(len(set(lengths)), 5)

    def test_forty_notes(self):
        pact = chain_pact(tuple("fcabed"), 40)
        self.assertEqual(longest_walk(pact=pact, hand="f"), tuple("fcabed" * 7)[:40])
        self.assertEqual(len(longest_walk(chain_pact(("b", "a"), 40), "a")), 39)


class ApartTest(unittest.TestCase):
    def test_against_all_walks(self):
        alike = []
        for one, other in pairs(813, 40):
            walks = all_walks(one, 5)
            expected = min(((hand, walk) for hand in one.hands for walk in walks
                            if (naive_walk(one, hand, walk) is None) != (naive_walk(other, hand, walk) is None)),
                           key=lambda pair: (len(pair[1]), pair), default=None)
            found = walk_apart(one, other)
            if expected is None and found is not None:
                hand, walk = found
                self.assertGreater(len(walk), 5)
                self.assertNotEqual(naive_walk(one, hand, walk) is None, naive_walk(other, hand, walk) is None)
            else:
                self.assertEqual(found, expected)
            self.assertEqual(walk_apart(other, one), found)
            alike.append(found is None)
        self.assertGreater(min(alike.count(True), alike.count(False)), 60)

    def test_rows_against_all_rows(self):
        same, like = [], []
        for one, other in pairs(814, 50, hands=(2, 4)):
            apart = [(hand, row) for row in all_rows(one.hands) for hand in sorted(one.hands)
                     if row_holds(one, hand, row) != row_holds(other, hand, row)]
            self.assertEqual(rows_apart(one, other), apart[0] if apart else None)
            same.append(not apart)
            if not apart:
                like.append(walk_apart(one, other) is None)
                # Then all courts tell the same.
                for family in all_families(one.hands)[:12]:
                    self.assertEqual(court(one, family).__class__, court(other, family).__class__)
                    if isinstance(court(one, family), Torn):
                        self.assertEqual(court(one, family), court(other, family))
            else:
                self.assertIsNotNone(walk_apart(one, other))
        self.assertGreater(min(same.count(True), same.count(False)), 40)
        self.assertGreater(like.count(False), 3)

    def test_two_hands(self):
        found = []
        for one, other in pairs(815, 150, hands=(2, 2)):
            if len(one.hands) > 2:
                continue
            lengths = [[None if longest_walk(pact, hand) is None else len(longest_walk(pact, hand))
                        for hand in sorted(one.hands)] for pact in (one, other)]
            self.assertEqual(walk_apart(one, other) is None, lengths[0] == lengths[1])
            found.append(lengths[0] == lengths[1])
        self.assertGreater(min(found.count(True), found.count(False)), 40)

    def test_other_orders_and_other_hands(self):
        for pact in small_pacts(816, 30):
            self.assertIsNone(walk_apart(pact, turned(pact)))
            self.assertIsNone(rows_apart(turned(pact), pact))
            order = bare_form(pact).names
            self.assertIsNone(walk_apart(pact, retold_pact(pact, order)))
        for call in (walk_apart, rows_apart):
            self.assertEqual(raised(Refused, call, base_pact(), chain_pact(("a", "b", "c"), 6)), "hands")
            self.assertEqual(raised(Refused, call, base_pact(), chain_pact(("a", "c"), 6)), "hands")
            self.assertIsNone(call(one=base_pact(), other=base_pact()))

    def test_six_hands_and_forty_notes(self):
        start = time.monotonic()
        pact = chain_pact(tuple("fcabed"), 40)
        for other in (chain_pact(tuple("fcabed"), 39), chain_pact(tuple("defabc"), 40), pact):
            walk_apart(pact, other)
            rows_apart(pact, other)
        hand, walk = walk_apart(chain_pact(("a", "b"), 40), chain_pact(("a", "b"), 39))
        self.assertEqual((hand, len(walk)), ("b", 38))
        self.assertEqual(walk, tuple(itertools.islice(itertools.cycle("ab"), 38)))
        self.assertLess(time.monotonic() - start, 5)


if __name__ == "__main__":
    unittest.main()
