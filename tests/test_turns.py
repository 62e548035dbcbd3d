"""[45] and [46]: rows of turns, their pacts, and what they lack."""

import itertools
import random
import unittest

from boundorvoid.court import Just, Torn, court, court_rows
from boundorvoid.errors import InvalidRow, Refused
from boundorvoid.families import in_family, sized_family
from boundorvoid.pacts import Pact, lies_under, whole_paper
from boundorvoid.turns import lined_pact, pact_turns, part_places, turns_lack, turns_pact

from tests.helpers import all_families, all_rows, base_pact, chain_pact, close_pacts, note_names, raised, small_pacts

THREE = ("a", "b", "c")


def is_part(part, turns):
    rest = iter(turns)
    return all(turn in rest for turn in part)


def naive_stretch(hands, turns):
    """The turns from that by which each hand has come; None if one does not come."""
    for at in range(len(turns)):
        if set(turns[:at + 1]) == set(hands):
            return turns[at:]
    return None


def naive_lack(hands, family, turns):
    stretch = naive_stretch(hands, turns)
    if stretch is None:
        return ()
    for row in all_rows(hands):
        if in_family(family, tuple(sorted(row[:-1]))) and not is_part(row, stretch):
            return row
    return None


def all_turns(hands, many):
    return list(itertools.product(sorted(hands), repeat=many))


class PactTest(unittest.TestCase):
    def test_names_waits_and_all(self):
        pact = turns_pact(("a", "b"), ("b", "b", "a"))
        self.assertEqual(pact, Pact(("a", "b"), (("aa", "b", ()), ("ab", "b", ("aa",)), ("ac", "a", ("ab",))),
                                    ("ac", "aa"), ("ac",)))
        hands = ("x", "yy", "zzzzzzzz")
        pact = turns_pact(hands=hands, turns=("yy", "x", "zzzzzzzz") * 9)
        self.assertEqual(pact.names, note_names(27))
        self.assertEqual(pact.names[25:], ("az", "ba"))
        self.assertEqual(pact.notes[26], ("ba", "zzzzzzzz", ("az",)))
        self.assertEqual((pact.ready, pact.paper), (("ab", "aa", "ac"), ("ba",)))

    def test_forty_turns_and_more(self):
        turns = ("a", "b") * 20
        self.assertEqual(len(turns_pact(("a", "b"), turns).notes), 40)
        self.assertEqual(raised(Refused, turns_pact, ("a", "b"), turns + ("a",)), "turns")
        self.assertEqual(raised(Refused, turns_pact, ("a", "b"), ("a",) * 41), "begun")
        self.assertEqual(raised(InvalidRow, turns_pact, ("a", "b"), ("a",) * 41 + ("c",)), 41)

    def test_errors(self):
        for value, at in ((None, -1), (["a", "b"], -1), ("ab", -1), (1, -1), (("a", "c"), 1), (("a", None), 1),
                          ((["a"],), 0), ((True,), 0), (("a", ("b",)), 1), (base_pact(), -1)):
            self.assertEqual(raised(InvalidRow, turns_pact, ("a", "b"), value), at)
        for value in ((), ("a",), ("b", "b")):
            self.assertEqual(raised(Refused, turns_pact, ("a", "b"), value), "begun")

    def test_turns_of_a_pact(self):
        rng = random.Random(300)
        for _ in range(60):
            hands = tuple(sorted(rng.sample("abcdef", rng.randint(2, 6))))
            turns = tuple(rng.choice(hands) for _ in range(rng.randint(0, 20))) + tuple(rng.sample(hands, len(hands)))
            pact = turns_pact(hands, turns)
            first = max(turns.index(hand) for hand in hands)
            self.assertEqual(pact_turns(pact), (turns, first, len(turns)))
            for one, other in itertools.product(range(len(turns)), repeat=2):
                self.assertEqual(lies_under(pact, pact.names[one], pact.names[other]), one <= other)

    def test_other_chains(self):
        lines = chain_pact(("b", "a"), 6, paper=("aa", "ac"))
        self.assertEqual(pact_turns(pact=lines), (("b", "a") * 3, 1, 3))
        pact = Pact(("a", "b"), base_pact().notes, ("o", "p"), ("n",))
        self.assertEqual(pact_turns(pact), (("a", "b", "a", "b"), 3, 2))
        for pact in small_pacts(301, 40) + close_pacts(301, 40):
            apart = [1 for one in pact.names for other in pact.names
                     if not lies_under(pact, one, other) and not lies_under(pact, other, one)]
            self.assertEqual(pact_turns(pact) is None, bool(apart))

    def test_lined(self):
        justs = 0
        for pact in small_pacts(302, 40) + close_pacts(302, 60):
            lined = lined_pact(pact)
            self.assertEqual((lined.hands, lined.names, lined.ready, lined.paper),
                             (pact.hands, pact.names, pact.ready, pact.paper))
            self.assertEqual([note[1] for note in lined.notes], [note[1] for note in pact.notes])
            self.assertEqual([note[2] for note in lined.notes], [()] + [(name,) for name in pact.names[:-1]])
            self.assertIsNotNone(pact_turns(lined))
            for family in all_families(pact.hands)[::3]:
                if isinstance(court(pact, family), Just):
                    self.assertIsInstance(court(lined, family), Just)
                    justs += 1
        self.assertGreater(justs, 30)
        self.assertEqual(lined_pact(pact=base_pact()), base_pact())


class PartTest(unittest.TestCase):
    def test_places(self):
        self.assertEqual(part_places((), ()), ())
        self.assertEqual(part_places(("a", "b"), ()), ())
        self.assertIsNone(part_places((), ("a",)))
        self.assertEqual(part_places(turns=("a", "b", "a", "b", "a"), part=("b", "a", "a")), (1, 2, 4))
        self.assertIsNone(part_places(("a", "b", "a"), ("b", "b")))
        self.assertIsNone(part_places(("a", "b"), ("c",)))

    def test_against_the_words(self):
        rng = random.Random(303)
        for _ in range(300):
            turns = tuple(rng.choice(THREE) for _ in range(rng.randint(0, 9)))
            part = tuple(rng.choice(THREE) for _ in range(rng.randint(0, 4)))
            rows = [places for places in itertools.combinations(range(len(turns)), len(part))
                    if all(turns[at] == hand for at, hand in zip(places, part))]
            self.assertEqual(part_places(turns, part), min(rows, default=None))

    def test_sixty(self):
        turns = ("a", "b", "c") * 20
        self.assertEqual(part_places(turns, turns), tuple(range(60)))
        self.assertIsNone(part_places(turns, turns[1:] + ("a", "b")))


class LackTest(unittest.TestCase):
    def test_against_the_words_and_the_court(self):
        found = []
        for hands, most in ((("a", "b"), 6), (THREE, 7)):
            for turns in [turns for many in range(most + 1) for turns in all_turns(hands, many)][::3]:
                for family in all_families(hands)[::2 if len(hands) > 2 else 1]:
                    lack = turns_lack(hands, family, turns)
                    self.assertEqual(lack, naive_lack(hands, family, turns))
                    found.append(lack)
                    if len(found) % 7 == 0 and lack != ():
                        told = court(turns_pact(hands, turns), family)
                        if lack is None:
                            self.assertIsInstance(told, Just)
                        else:
                            self.assertEqual(told.row, lack)
        self.assertGreater(min(found.count(()), found.count(None)), 100)

    def test_pacts_with_turns(self):
        rng, found = random.Random(304), []
        for _ in range(150):
            hands = THREE[:rng.randint(2, 3)]
            told = chain_pact(hands, 12).notes[:rng.randint(6, 12)]
            notes = tuple((name, rng.choice(hands) if at > 3 else hand, waits)
                          for at, (name, hand, waits) in enumerate(told))
            ready = tuple(rng.choice([name for name, owner, _ in notes if owner == hand][:2]) for hand in hands)
            pact = Pact(hands, notes, ready, (rng.choice([note[0] for note in notes[len(hands):]]),))
            turns, start, end = pact_turns(pact)
            self.assertEqual(end, len(whole_paper(pact)))
            for family in all_families(hands):
                just = all(is_part(row, turns[start:end]) for row in court_rows(pact, family))
                self.assertEqual(isinstance(court(pact, family), Just), just)
                found.append(just)
        self.assertGreater(min(found.count(True), found.count(False)), 100)

    def test_what_has_just_turns_as_a_part_is_just(self):
        rng = random.Random(305)
        for _ in range(100):
            turns = tuple(rng.choice(THREE) for _ in range(9))
            family = rng.choice(all_families(THREE))
            if turns_lack(THREE, family, turns) is None:
                at = rng.randrange(10)
                self.assertIsNone(turns_lack(THREE, family, turns[:at] + (rng.choice(THREE),) + turns[at:]))

    def test_edges(self):
        self.assertEqual(turns_lack(THREE, ((),), ()), ())
        self.assertEqual(turns_lack(THREE, ((),), ("a", "b", "a")), ())
        self.assertEqual(turns_lack(hands=THREE, family=((),), turns=("a", "b", "c")), ("a",))
        self.assertIsNone(turns_lack(THREE, ((),), ("a", "b", "c", "a", "b")))
        self.assertEqual(turns_lack(THREE, (("c",),), ("a", "b", "c", "a")), ("b",))
        self.assertEqual(turns_lack(THREE, (("c",),), ("a", "b", "c", "b", "a")), None)
        self.assertEqual(turns_lack(THREE, (("b",),), ("a", "b", "c", "b", "a")), ("b", "c"))

    def test_six_hands(self):
        hands = tuple("abcdef")
        for many in range(7):
            family = sized_family(hands, many)
            least = (min(many, 5) + 2) * 5 + 1
            self.assertIsNone(turns_lack(hands, family, (hands * 10)[:max(least, 11)]))
            lack = turns_lack(hands, family, (hands * 10)[:max(least, 11) - 1])
            self.assertEqual(len(lack), min(many, 5) + 1)
        turns = hands * 6 + ("a", "b", "c", "d")
        self.assertIsInstance(court(turns_pact(hands, turns), (hands,)), Just)
        self.assertIsInstance(court(turns_pact(hands, turns[:34]), (hands,)), Torn)


if __name__ == "__main__":
    unittest.main()
