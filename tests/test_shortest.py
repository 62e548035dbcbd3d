"""[51], [52] and [53]: the shortest, cheapest and tightest turns, and how many liars turns bear."""

import itertools
import math
import random
import unittest

from boundorvoid.families import sized_family
from boundorvoid.shortest import cheapest_turns, fewest_more, fewest_stretch, needless_turns, next_writers, price_table
from boundorvoid.shortest import rounds_needed, table_price, tight_stretches, tight_turns, turn_liars, turn_reach
from boundorvoid.tallies import wishes_machine
from boundorvoid.turns import turns_lack
from boundorvoid.wishes import family_wishes, most_wishes, wants_behind, wishes_held

from tests.helpers import all_families, base_pact
from tests.test_turns import THREE, all_turns, is_part
from tests.test_wishes import draw_turns, draw_wishes

TWO = ("a", "b")
FOUR = tuple("abcd")
FIVE = tuple("abcde")


def drawn(seed, many):
    """Wishes of two or three hands, and those of families."""
    rng = random.Random(seed)
    for _ in range(many):
        hands = rng.choice((TWO, THREE))
        yield rng, hands, draw_wishes(rng, hands, rng.randrange(4), 3)
    for family in all_families(THREE):
        if len(family[0]) < 2:
            yield rng, THREE, family_wishes(THREE, family)


def is_just(hands, family, turns):
    return turns_lack(hands, family, turns) is None


class FewestTest(unittest.TestCase):
    def test_stretches(self):
        for _, hands, wishes in drawn(330, 60):
            many = 0
            while not any(wishes_held(wishes, turns) for turns in all_turns(hands, many)):
                many += 1
            rows = sum(wishes_held(wishes, turns) for turns in all_turns(hands, many))
            self.assertEqual(fewest_stretch(hands, wishes), (many, rows))

    def test_the_numbers_of_the_document(self):
        self.assertEqual(fewest_stretch(hands=THREE, wishes=()), (0, 1))
        for many in range(2, 6):
            hands = FIVE[:many]
            self.assertEqual(fewest_stretch(hands, family_wishes(hands, ((),))), (many, math.factorial(many)))
            for liars in range(1, many + 1):
                family = tuple((hand,) for hand in hands[:liars])
                expected = math.factorial(liars) * math.factorial(many - 1)
                self.assertEqual(fewest_stretch(hands, family_wishes(hands, family)), (many + liars - 1, expected))
        self.assertEqual(fewest_stretch(THREE, family_wishes(THREE, (THREE,))), (7, 42))

    def test_more_turns(self):
        rng = random.Random(331)
        for _ in range(80):
            hands = rng.choice((TWO, THREE))
            family = rng.choice([family for family in all_families(hands) if len(family[0]) < 2 or len(hands) < 3])
            turns = draw_turns(rng, hands, 0, 5)
            many = 0
            while not any(is_just(hands, family, turns + more) for more in all_turns(hands, many)):
                many += 1
            self.assertEqual(fewest_more(hands, family, turns), many)
            heads = {more[:1] for more in all_turns(hands, many) if is_just(hands, family, turns + more)}
            self.assertEqual(next_writers(hands, family, turns), tuple(sorted(head[0] for head in heads if head)))
        self.assertEqual(next_writers(hands=THREE, family=((),), turns=("a", "b", "c", "a", "b")), ())
        self.assertEqual(fewest_more(hands=THREE, family=((),), turns=("a", "b", "c", "a", "b")), 0)
        self.assertEqual(next_writers(THREE, sized_family(THREE, 1), tuple("abcb")), ("a",))
        self.assertEqual(fewest_more(FIVE, sized_family(FIVE, 1), ("a",) * 60), 12)
        self.assertEqual(next_writers(FIVE, sized_family(FIVE, 1), ()), FIVE)


class PriceTest(unittest.TestCase):
    def naive_least(self, hands, prices, holds, most):
        return min(sum(prices[hands.index(turn)] for turn in turns)
                   for many in range(most + 1) for turns in all_turns(hands, many) if holds(turns))

    def test_cheapest(self):
        rng = random.Random(332)
        for _ in range(40):
            family = rng.choice(all_families(TWO))
            prices = tuple(rng.choice((0, 1, 2, 5, 1000)) for _ in TWO)
            self.check_cheapest(TWO, family, prices, 7)
        for _ in range(12):
            family = rng.choice([family for family in all_families(THREE) if len(family[0]) < 2])
            self.check_cheapest(THREE, family, tuple(rng.choice((0, 1, 2, 7)) for _ in THREE), 7)

    def check_cheapest(self, hands, family, prices, most):
        price, turns = cheapest_turns(hands, family, prices)
        self.assertTrue(is_just(hands, family, turns))
        self.assertIsInstance(turns, tuple)
        self.assertEqual(sum(prices[hands.index(turn)] for turn in turns), price)
        self.assertEqual(self.naive_least(hands, prices, lambda row: is_just(hands, family, row), most), price)

    def test_one_hand_alone_has_a_price(self):
        for hands in (TWO, THREE):
            for family in all_families(hands):
                for at, hand in enumerate(hands):
                    prices = tuple(int(other == hand) for other in hands)
                    others = any(set(lot) - {hand} for lot in family)
                    price, turns = cheapest_turns(hands, family, prices)
                    self.assertEqual(price, 2 if others else 1)
                    self.assertEqual(turns.count(hand), price)
                    self.assertTrue(is_just(hands, family, turns))
        for many in (4, 5):
            hands = FIVE[:many]
            self.assertEqual(cheapest_turns(hands, sized_family(hands, 1), (0,) * (many - 1) + (1,))[0], 2)
            self.assertEqual(cheapest_turns(hands, ((hands[-1],),), (0,) * (many - 1) + (1,))[0], 1)

    def test_nothing_costs_anything(self):
        for family in all_families(THREE):
            price, turns = cheapest_turns(hands=THREE, family=family, prices=(0, 0, 0))
            self.assertEqual(price, 0)
            self.assertTrue(is_just(THREE, family, turns))
            wishes = family_wishes(THREE, family)
            self.assertEqual({price for _, price in price_table(THREE, wishes, (0, 0, 0))}, {0})

    def test_prices_up_to_the_limit(self):
        price, turns = cheapest_turns(FIVE, sized_family(FIVE, 1), (1000,) * 5)
        self.assertEqual((price, len(turns)), (13000, 13))
        price, turns = cheapest_turns(THREE, (THREE,), (1000, 999, 0))
        self.assertEqual(price, 2 * 1000 + 2 * 999 + 1000 * turns.count("a") - 2000 + 999 * turns.count("b") - 1998)
        self.assertTrue(is_just(THREE, (THREE,), turns))

    def test_tables(self):
        for rng, hands, wishes in drawn(333, 40):
            prices = tuple(rng.choice((0, 1, 2, 3)) for _ in hands)
            table = price_table(hands, wishes, prices)
            self.assertEqual(sorted(state for state, _ in table), sorted(wishes_machine(hands, wishes)[0]))
            self.assertEqual(table, tuple(sorted(table)))
            told = dict(table)
            for state, price in table[:6]:
                if sum(map(len, state)) <= 7:
                    holds = self.naive_least(hands, prices, lambda row: wishes_held(state, row), sum(map(len, state)))
                    self.assertEqual(price, holds)
            self.assertEqual(told[()], 0)
            self.assertEqual(table_price(hands, wishes, prices, table), told[wishes])
        self.assertEqual(price_table(hands=TWO, wishes=(("b",),), prices=(3, 5)), (((), 0), ((("b",),), 5)))


class TableTest(unittest.TestCase):
    WISHES = (("a", "b"), ("b", "a"))

    def test_values_of_other_forms(self):
        table = price_table(TWO, self.WISHES, (2, 3))
        price = dict(table)[self.WISHES]
        self.assertEqual(price, 7)
        self.assertEqual(table_price(hands=TWO, wishes=self.WISHES, prices=(2, 3), value=table), price)
        self.assertEqual(table_price(TWO, self.WISHES, (2, 3), table[::-1]), price)
        at = [state for state, _ in table].index(self.WISHES)
        rest = table[:at] + table[at + 1:]
        wrong = [None, (), rest, list(table), "table", 7, True, base_pact(), table + table[:1], table + (None,),
                 table + ((),), tuple(map(list, table)), table + (((("a",),), 0, 0),), table + (((("a",),),),)]
        for number in (True, False, -1, "7", None, (7,), 8, [7]):
            wrong.append(rest + ((self.WISHES, number),))
        for wishes in ((("b", "a"), ("a", "b")), list(self.WISHES), (["a", "b"], ("b", "a")), self.WISHES + ((),),
                       (("c",),), ((),), None, "ab", (("a",), ("a",)), (("a",), ("a", "b")), (("a", 1),), ("a",)):
            wrong.append(table + ((wishes, 0),))
        for value in wrong:
            self.assertIsNone(table_price(TWO, self.WISHES, (2, 3), value), value)

    def test_what_may_be_told(self):
        # Less than the least may be told, also of no state alone, and of wishes that are none of its states.
        self.assertEqual(table_price(TWO, self.WISHES, (2, 3), ((self.WISHES, 0),)), 0)
        self.assertEqual(table_price(TWO, self.WISHES, (2, 3), ((self.WISHES, 2),)), 2)
        self.assertIsNone(table_price(TWO, self.WISHES, (2, 3), ((self.WISHES, 3),)))
        other = ((("a", "a"),), 4)
        self.assertIsNone(table_price(TWO, self.WISHES, (2, 3), ((self.WISHES, 2), other)))
        self.assertEqual(table_price(TWO, self.WISHES, (2, 3), ((self.WISHES, 2), other, ((("a",),), 2))), 2)
        self.assertIsNone(table_price(TWO, self.WISHES, (2, 3), ((self.WISHES, 2), ((), 1))))
        self.assertEqual(table_price(TWO, self.WISHES, (2, 3), ((self.WISHES, 2), ((), 0))), 2)
        self.assertEqual(table_price(TWO, (), (2, 3), (((), 0),)), 0)
        self.assertIsNone(table_price(TWO, (), (2, 3), ()))
        self.assertIsNone(table_price(TWO, (), (2, 3), (((), 1),)))

    def test_changed_at_one_place(self):
        passed = held = 0
        for rng, hands, wishes in drawn(334, 30):
            prices = tuple(rng.choice((0, 1, 2, 3)) for _ in hands)
            table = price_table(hands, wishes, prices)
            for at, (state, price) in enumerate(table):
                for number in (price - 1, price + 1, 0):
                    changed = table[:at] + ((state, number),) + table[at + 1:]
                    expected = self.slow_price(hands, wishes, prices, changed)
                    found = table_price(hands, wishes, prices, changed)
                    self.assertEqual(found, expected)
                    if found is not None:
                        self.assertLessEqual(found, dict(table)[wishes])
                    passed, held = passed + (found is not None), held + (found is None)
        self.assertGreater(min(passed, held), 100)

    def slow_price(self, hands, wishes, prices, value):
        told = dict(value)
        if any(number < 0 for number in told.values()) or told[()] > 0:
            return None
        for state, number in value:
            for hand, price in zip(hands, prices):
                if number > price + told.get(wants_behind(state, (hand,)), 0):
                    return None
        return told[wishes]


class TightTest(unittest.TestCase):
    def test_needless(self):
        rng, many = random.Random(335), 0
        for _ in range(200):
            hands = rng.choice((TWO, THREE))
            family = rng.choice(all_families(hands))
            turns = draw_turns(rng, hands, 5, 12)
            if is_just(hands, family, turns):
                needless = [at for at in range(len(turns)) if is_just(hands, family, turns[:at] + turns[at + 1:])]
                self.assertEqual(needless_turns(hands, family, turns), tuple(needless))
                many += len(needless) > 0
        self.assertGreater(many, 30)
        self.assertEqual(needless_turns(hands=TWO, family=((),), turns=("a", "b", "a")), ())
        self.assertEqual(needless_turns(TWO, ((),), ("a",) * 58 + ("b", "a")), tuple(range(58)))
        self.assertEqual(needless_turns(FIVE, sized_family(FIVE, 1), FIVE * 12), tuple(range(60)))

    def test_tight_stretches(self):
        for _, hands, wishes in drawn(336, 50):
            most = sum(map(len, wishes))
            tight = []
            for many in range(min(most, 7 if len(hands) > 2 else 9) + 1):
                for turns in all_turns(hands, many):
                    less = [turns[:at] + turns[at + 1:] for at in range(many)]
                    if wishes_held(wishes, turns) and not any(wishes_held(wishes, other) for other in less):
                        tight.append(turns)
            found = tight_stretches(hands, wishes)
            self.assertEqual([turns for turns in found if len(turns) <= (7 if len(hands) > 2 else 9)], tight)
        self.assertEqual(tight_stretches(hands=THREE, wishes=()), ((),))

    def test_tight_turns(self):
        for hands, most in ((TWO, 7), (THREE, 7)):
            for family in all_families(hands):
                tight = []
                for many in range(most + 1):
                    for turns in all_turns(hands, many):
                        if is_just(hands, family, turns) and not any(
                                is_just(hands, family, turns[:at] + turns[at + 1:]) for at in range(many)):
                            tight.append(turns)
                found = tight_turns(hands, family)
                self.assertEqual([turns for turns in found if len(turns) <= most], tight)
                self.check_tight(hands, family, found)

    def check_tight(self, hands, family, found):
        self.assertEqual(list(found), sorted(set(found), key=lambda turns: (len(turns), turns)))
        stretches = tight_stretches(hands, family_wishes(hands, family))
        told = [order + stretch for stretch in stretches for order in itertools.permutations(
            [hand for hand in hands if hand != stretch[0]])]
        self.assertEqual(sorted(found), sorted(told))
        for turns in found:
            self.assertTrue(is_just(hands, family, turns))
            self.assertEqual(needless_turns(hands, family, turns), ())

    def test_the_numbers_of_the_document(self):
        for hands in (TWO, THREE, FOUR):
            size = len(hands)
            rows = tight_stretches(hands, family_wishes(hands, ((),)))
            self.assertEqual((len(rows), {len(row) for row in rows}), (math.factorial(size), {size}))
            for liars in range(1, size + 1):
                rows = tight_stretches(hands, family_wishes(hands, tuple((hand,) for hand in hands[:liars])))
                self.assertEqual(len(rows), math.factorial(liars) * math.factorial(size - 1))
                self.assertEqual({len(row) for row in rows}, {size + liars - 1})
        for family in (sized_family(THREE, 2), (THREE,)):
            rows = tight_stretches(THREE, family_wishes(THREE, family))
            self.assertEqual((len(rows), {len(row) for row in rows}), (42, {7}))
        self.assertEqual(len(tight_turns(hands=THREE, family=(THREE,))), 84)

    def test_the_limits(self):
        for wishes in ((("a", "a", "a", "a"), ("b", "c", "b", "b"), ("c", "c", "b", "c")),
                       (("a", "b", "a", "b"), ("b", "c", "b", "c"), ("c", "a", "c", "a"))):
            rows = tight_stretches(THREE, wishes)
            self.assertEqual(len(rows[0]), fewest_stretch(THREE, wishes)[0])
            for turns in rows[::50]:
                self.assertTrue(wishes_held(wishes, turns))
        wishes = (("a", "b", "c"), ("b", "d", "a"), ("d", "c", "b"))
        rows = tight_stretches(FOUR, wishes)
        self.assertEqual(sum(len(row) == len(rows[0]) for row in rows), fewest_stretch(FOUR, wishes)[1])


class ReachTest(unittest.TestCase):
    def test_against_the_words(self):
        rng, reaches = random.Random(337), []
        for _ in range(250):
            hands = tuple("abcd"[:rng.randint(2, 4)])
            turns = draw_turns(rng, hands, 0, 16)
            reach = max(many for many in range(len(hands) + 1)
                        if all(is_part(row, turns) for row in itertools.permutations(hands, many)))
            self.assertEqual(turn_reach(hands, turns), reach)
            reaches.append(reach)
            at = rng.randrange(len(turns) + 1)
            both = turn_reach(hands, turns[:at]) + turn_reach(hands, turns[at:])
            self.assertGreaterEqual(reach, min(both, len(hands)))
            self.assertGreaterEqual(len(turns), reach * (2 * len(hands) - reach + 1) // 2)
            liars = [many for many in range(len(hands) + 1) if is_just(hands, sized_family(hands, many), turns)]
            self.assertEqual(turn_liars(hands, turns), max(liars, default=None))
        self.assertGreater(min(map(reaches.count, (0, 1, 2, 3))), 15)

    def test_edges(self):
        self.assertEqual(turn_reach(hands=THREE, turns=()), 0)
        self.assertIsNone(turn_liars(hands=THREE, turns=()))
        self.assertIsNone(turn_liars(THREE, ("a", "b", "a")))
        self.assertIsNone(turn_liars(THREE, ("a", "b", "c")))
        self.assertEqual(turn_liars(THREE, ("a", "b", "c", "a", "b")), 0)
        hands = tuple("abcdef")
        self.assertEqual([turn_reach(hands, hands * many) for many in range(8)], [0, 1, 2, 3, 4, 5, 6, 6])
        self.assertEqual([turn_liars(hands, hands * many) for many in range(1, 9)], [None, 0, 1, 2, 3, 6, 6, 6])
        self.assertEqual(turn_liars(hands, hands * 10), 6)

    def test_rounds(self):
        rng = random.Random(338)
        for _ in range(80):
            hands = rng.choice((TWO, THREE, FOUR))
            family = rng.choice(all_families(hands))
            period = draw_turns(rng, hands, 0, 5) + tuple(rng.sample(hands, len(hands)))
            many = 0
            while not is_just(hands, family, (period * 12)[:many]):
                many += 1
            self.assertEqual(rounds_needed(hands, family, period), many)
        self.assertEqual(rounds_needed(hands=TWO, family=((),), period=("b", "a")), 3)

    def test_rounds_of_an_order(self):
        for size in range(2, 7):
            hands = tuple("abcdef"[:size])
            for many in range(size):
                period = hands[1:] + hands[:1]
                self.assertEqual(rounds_needed(hands, sized_family(hands, many), period), (many + 2) * (size - 1) + 1)
        hands = tuple("abcdef")
        period = hands + ("a",) * 6
        needed = rounds_needed(hands, (hands,), period)
        self.assertTrue(is_just(hands, (hands,), (period * 9)[:needed]))
        self.assertFalse(is_just(hands, (hands,), (period * 9)[:needed - 1]))


class LimitTest(unittest.TestCase):
    def test_wishes_of_five_hands(self):
        wishes = family_wishes(FIVE, sized_family(FIVE, 1))
        self.assertEqual(fewest_stretch(FIVE, wishes), (9, 2880))
        table = price_table(FIVE, wishes, (1, 2, 3, 4, 5))
        self.assertEqual(len(table), 62)
        self.assertEqual(table_price(FIVE, wishes, (1, 2, 3, 4, 5), table), dict(table)[wishes])
        self.assertEqual(most_wishes(wishes), wishes)


if __name__ == "__main__":
    unittest.main()
