"""[47] and [48]: wishes, what is still wanted, and turns that tell two rows apart."""

import itertools
import random
import unittest

from boundorvoid.court import court_rows
from boundorvoid.errors import InvalidRow
from boundorvoid.turns import turns_lack
from boundorvoid.wishes import avoiding_turns, family_wishes, most_wishes, need_wishes, telling_turns, wants_behind
from boundorvoid.wishes import wishes_held

from tests.helpers import all_families, all_rows, base_pact, chain_pact, raised
from tests.test_turns import THREE, all_turns, is_part, naive_stretch


def draw_turns(rng, hands, least, most):
    return tuple(rng.choice(hands) for _ in range(rng.randint(least, most)))


def draw_wishes(rng, hands, many, most):
    return most_wishes([draw_turns(rng, hands, 1, most) for _ in range(many)])


class WishesTest(unittest.TestCase):
    def test_wishes(self):
        for value in ((), (("a",),), (("a", "a"), ("a", "b"), ("b", "a")), (("a", "b", "a"), ("b", "b"))):
            self.assertIsNone(need_wishes(("a", "b"), value))
        self.assertIsNone(need_wishes(hands=("a", "b"), value=()))

    def test_what_is_none(self):
        for value, at in ((None, -1), ([], -1), ([("a",)], -1), ("a", -1), (3, -1), (base_pact(), -1),
                          (((),), 0), ((("a",), ()), 1), ((["a"],), 0), (("a",), 0), ((("a",), ("a",)), 1),
                          ((("b",), ("a",)), 1), ((("a", "d"),), 0), ((("a",), ("b", None)), 1), ((("a",), 7), 1),
                          # The first of two of which one is a part of the other, whichever it is.
                          ((("a", "b"), ("b",)), 0), ((("a",), ("b", "a")), 0),
                          ((("a", "a"), ("b",), ("c", "b")), 1), ((("a", "b", "c"), ("a", "c"), ("c", "c")), 0),
                          # An earlier kind of wrong thing is told first, wherever it stands.
                          ((("a",), ("b", "a"), ("c", "d")), 2), ((("a",), ("b", "a"), ("b",)), 2)):
            self.assertEqual(raised(InvalidRow, need_wishes, THREE, value), at, value)

    def test_against_the_words(self):
        rng, found = random.Random(310), []
        for _ in range(300):
            value = tuple(sorted({draw_turns(rng, THREE, 1, 4) for _ in range(rng.randrange(4))}))
            wrong = [at for at, one in enumerate(value) for other in value
                     if one != other and (is_part(one, other) or is_part(other, one))]
            if wrong:
                self.assertEqual(raised(InvalidRow, need_wishes, THREE, value), min(wrong))
            else:
                self.assertIsNone(need_wishes(THREE, value))
            found.append(bool(wrong))
        self.assertGreater(min(found.count(True), found.count(False)), 50)

    def test_most(self):
        self.assertEqual(most_wishes([]), ())
        self.assertEqual(most_wishes([()]), ())
        self.assertEqual(most_wishes(((), ("b",), ("b",), ())), (("b",),))
        self.assertEqual(most_wishes(rows=[("b", "a"), ("a",), ("a", "b"), ("b", "a")]), (("a", "b"), ("b", "a")))
        rng = random.Random(311)
        for _ in range(200):
            rows = [draw_turns(rng, THREE, 0, 5) for _ in range(rng.randrange(7))]
            expected = sorted({row for row in rows if row and not any(
                row != other and is_part(row, other) for other in rows)})
            self.assertEqual(most_wishes(rows), tuple(expected))
            need_wishes(THREE, most_wishes(rows))

    def test_families(self):
        for hands in (("a", "b"), THREE, tuple("abcd")):
            families = all_families(hands)
            for family in families[::1 if len(hands) < 4 else 9]:
                rows = [row for row in all_rows(hands) if any(set(row[:-1]) <= set(lot) for lot in family)]
                wishes = family_wishes(hands, family)
                self.assertEqual(wishes, most_wishes(rows))
                told = [order + (hand,) for lot in family for order in itertools.permutations(lot)
                        for hand in hands if hand not in lot]
                told += [order for lot in family if lot == hands for order in itertools.permutations(lot)]
                self.assertEqual(wishes, tuple(sorted(told)))
        self.assertEqual(family_wishes(hands=("a", "b"), family=((),)), (("a",), ("b",)))

    def test_families_of_six(self):
        hands = tuple("abcdef")
        wishes = family_wishes(hands, (hands,))
        self.assertEqual(len(wishes), 720)
        need_wishes(hands, wishes)
        self.assertEqual(most_wishes(court_rows(chain_pact(hands, 40), (("a", "b", "c"), ("d", "e")))),
                         family_wishes(hands, (("a", "b", "c"), ("d", "e"))))
        self.assertEqual(len(wants_behind(wishes, ("a", "b"))), 504)
        self.assertEqual(wants_behind(wishes, hands * 6), ())

    def test_held(self):
        self.assertIs(wishes_held((), ()), True)
        self.assertIs(wishes_held(wishes=(("a", "b"), ("b", "a")), turns=("a", "b", "a")), True)
        self.assertIs(wishes_held((("a", "b"), ("b", "a")), ("a", "b")), False)
        for family in all_families(THREE):
            wishes = family_wishes(THREE, family)
            for turns in all_turns(THREE, 5)[::5]:
                self.assertIs(wishes_held(wishes, turns), all(is_part(wish, turns) for wish in wishes))
                stretch = naive_stretch(THREE, turns)
                just = stretch is not None and wishes_held(wishes, stretch)
                self.assertEqual(turns_lack(THREE, family, turns) is None, just)


class WantsTest(unittest.TestCase):
    def naive_wants(self, wishes, turns):
        left = []
        for wish in wishes:
            many = max(many for many in range(len(wish) + 1) if is_part(wish[:many], turns))
            left.append(wish[many:])
        return tuple(sorted({row for row in left if row and not any(
            row != other and is_part(row, other) for other in left)}))

    def test_against_the_words(self):
        rng = random.Random(312)
        self.assertEqual(wants_behind((("a", "b"), ("b", "a")), ()), (("a", "b"), ("b", "a")))
        self.assertEqual(wants_behind(wishes=(("a", "b"), ("b", "a")), turns=("a",)), (("b", "a"),))
        for _ in range(300):
            wishes = draw_wishes(rng, THREE, rng.randrange(4), 4)
            one, other = draw_turns(rng, THREE, 0, 5), draw_turns(rng, THREE, 0, 5)
            wanted = wants_behind(wishes, one)
            self.assertEqual(wanted, self.naive_wants(wishes, one))
            self.assertEqual(wishes_held(wishes, one + other), wishes_held(wanted, other))
            self.assertEqual(wants_behind(wishes, one + other), wants_behind(wanted, other))

    def test_avoiding(self):
        for hands, wishes, most in ((("a", "b"), [row for many in (1, 2, 3) for row in all_turns("ab", many)], 5),
                                    (THREE, [row for many in (1, 2, 3) for row in all_turns("abc", many)], 3)):
            for wish in wishes:
                for many in range(most + 1):
                    turns = avoiding_turns(hands, wish, many)
                    self.assertTrue(set(turns) <= set(hands))
                    self.assertFalse(is_part(wish, turns))
                    for size in range(many + 1):
                        for other in all_turns(hands, size):
                            self.assertEqual(is_part(other, turns), not is_part(wish, other))
        self.assertIsInstance(avoiding_turns(hands=("a", "b"), wish=("a",), many=20), tuple)

    def test_avoiding_much(self):
        hands = tuple("abcdef")
        rng = random.Random(313)
        wish = draw_turns(rng, hands, 8, 8)
        turns = avoiding_turns(hands, wish, 20)
        self.assertFalse(is_part(wish, turns))
        for _ in range(300):
            other = draw_turns(rng, hands[:rng.randint(1, 6)], 0, 20)
            self.assertEqual(is_part(other, turns), not is_part(wish, other))

    def test_telling(self):
        rng, found = random.Random(314), []
        for _ in range(300):
            hands = rng.choice((("a", "b"), THREE, tuple("abcd")))
            wishes = draw_wishes(rng, hands, rng.randrange(5), 4)
            one, other = draw_turns(rng, hands, 0, 5), draw_turns(rng, hands, 0, 5)
            turns = telling_turns(hands, wishes, one, other)
            same = wants_behind(wishes, one) == wants_behind(wishes, other)
            found.append(same)
            if same:
                self.assertIsNone(turns)
                for more in all_turns(hands, 3):
                    self.assertEqual(wishes_held(wishes, one + more), wishes_held(wishes, other + more))
            else:
                self.assertTrue(set(turns) <= set(hands) and isinstance(turns, tuple))
                self.assertNotEqual(wishes_held(wishes, one + turns), wishes_held(wishes, other + turns))
        self.assertGreater(min(found.count(True), found.count(False)), 60)
        self.assertIsNone(telling_turns(hands=THREE, wishes=(), one=("a",), other=()))
        wishes = family_wishes(tuple("abcdef"), (tuple("abc"),))
        turns = telling_turns(tuple("abcdef"), wishes, ("a", "b"), ("b", "a"))
        self.assertNotEqual(wishes_held(wishes, ("a", "b") + turns), wishes_held(wishes, ("b", "a") + turns))

    def test_one_side_wants_nothing(self):
        wishes = (("a",), ("b", "b"))
        for one, other in ((("a", "b", "b"), ()), (("b", "a"), ("b", "b", "a")), (("a", "b", "b"), ("b", "b"))):
            for pair in ((one, other), (other, one)):
                turns = telling_turns(("a", "b"), wishes, *pair)
                self.assertNotEqual(wishes_held(wishes, pair[0] + turns), wishes_held(wishes, pair[1] + turns))


if __name__ == "__main__":
    unittest.main()
