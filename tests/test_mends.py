"""[57], [58] and [59]: waits, orders and notes that are missing."""

import itertools
import random
import unittest

from boundorvoid.climbs import climb, descent, row_holds
from boundorvoid.court import Just, court, court_rows
from boundorvoid.errors import InvalidFamily, InvalidPact, InvalidRow, NoName, Refused
from boundorvoid.families import sized_family
from boundorvoid.forms import least_order
from boundorvoid.mends import behind_pact, just_order, one_waits, row_rectangles, row_waits, turns_behind, wider_pact
from boundorvoid.pacts import Pact, key_note, lies_under, ready_note, under_of, whole_paper
from boundorvoid.shortest import fewest_stretch
from boundorvoid.turns import turns_pact
from boundorvoid.wishes import family_wishes

from tests.helpers import all_families, all_rows, base_pact, chain_pact, close_pacts, loose_pact, naive_under
from tests.helpers import note_names, raised, small_pacts
from tests.test_turns import all_turns, is_part

ONE_LIES = (("a",), ("b",))


def drawn(seed, many, **sizes):
    return small_pacts(seed, many, **sizes) + close_pacts(seed, many, **sizes)


def apart(pact, one, other):
    return not lies_under(pact, one, other) and not lies_under(pact, other, one)


def is_just(pact, family):
    return isinstance(court(pact, family), Just)


class WiderTest(unittest.TestCase):
    def naive_wider(self, pact, waits):
        """The pact told in the least order, or None if there is a ring."""
        told = {name: set(lot) for name, _, lot in pact.notes}
        for note, wait in waits:
            told[note].add(wait)
        owner = {name: hand for name, hand, _ in pact.notes}
        order = []
        while len(order) < len(pact.names):
            free = []
            for name in pact.names:
                own = [other for other in pact.names if owner[other] == owner[name]]
                ahead = told[name] | set(own[:own.index(name)])
                if name not in order and ahead <= set(order):
                    free.append(name)
            if not free:
                return None
            order.append(min(free))
        notes = tuple((name, owner[name], tuple(sorted(told[name]))) for name in order)
        return Pact(pact.hands, notes, pact.ready, pact.paper)

    def test_against_the_words(self):
        rng, found = random.Random(350), []
        for pact in drawn(350, 60):
            for _ in range(5):
                waits = [tuple(rng.choice(pact.names) for _ in range(2)) for _ in range(rng.randrange(4))]
                expected = self.naive_wider(pact, waits)
                found.append(expected is None)
                if expected is None:
                    self.assertEqual(raised(Refused, wider_pact, pact, waits), "ring")
                    continue
                wider = wider_pact(pact, rng.choice((list, tuple))(waits))
                self.assertEqual(wider, expected)
                self.assertEqual(least_order(wider), wider.names)
                for one, other in itertools.product(pact.names, repeat=2):
                    if lies_under(pact, one, other):
                        self.assertTrue(lies_under(wider, one, other))
                for family in all_families(pact.hands)[::4]:
                    if is_just(pact, family):
                        self.assertTrue(is_just(wider, family))
        self.assertGreater(min(found.count(True), found.count(False)), 50)

    def test_edges_and_errors(self):
        pact = base_pact("n")
        self.assertEqual(wider_pact(pact, ()), pact)
        self.assertEqual(wider_pact(pact=pact, waits=[("o", "m")]).notes[2], ("o", "a", ("m", "n")))
        self.assertEqual(wider_pact(pact, [("o", "n"), ("o", "n")]), pact)
        self.assertEqual(raised(Refused, wider_pact, pact, [("m", "m")]), "ring")
        self.assertEqual(raised(Refused, wider_pact, pact, [("m", "p")]), "ring")
        self.assertEqual(raised(Refused, wider_pact, loose_pact((2, 2)), [("aaa", "aab")]), "ring")
        self.assertEqual(raised(Refused, wider_pact, loose_pact((2, 2)), [("aaa", "bab"), ("baa", "aab")]), "ring")
        self.assertEqual(raised(NoName, wider_pact, pact, [("m", "p"), ("x", "y"), ("z", "m")]), "x")
        self.assertEqual(raised(NoName, wider_pact, pact, [("m", "y"), ("x", "m")]), "y")
        # The whole paper grows with what its notes wait for.
        loose = Pact(("a", "b"), (("x", "a", ()), ("c", "b", ()), ("b", "a", ())), ("x", "c"), ("c", "x"))
        wider = wider_pact(loose, [("c", "b")])
        self.assertEqual((wider.names, wider.paper, whole_paper(wider)), (("x", "b", "c"), ("c", "x"), ("b", "c", "x")))


class RectangleTest(unittest.TestCase):
    def naive_rectangles(self, pact, hand, row):
        first = (ready_note(pact, hand),) + climb(pact, hand, row)
        found = []
        for at in range(1, len(row) + 2):
            if at > len(first):
                break
            over = tuple(name for name in sorted(pact.names) if lies_under(pact, first[at - 1], name))
            if at == len(row) + 1:
                found.append((over, whole_paper(pact)))
            elif descent(pact, row[at - 1:]) is not None:
                found.append((over, under_of(pact, descent(pact, row[at - 1:])[0])))
        return tuple(found)

    def test_against_the_words(self):
        sizes = []
        for pact in drawn(351, 40, hands=(2, 3)):
            for row in all_rows(pact.hands):
                for hand in pact.hands:
                    found = row_rectangles(pact, hand, row)
                    self.assertEqual(found, self.naive_rectangles(pact, hand, row))
                    sizes.append(len(row) + 1 - len(found))
                    if not row_holds(pact, hand, row) and len(sizes) % 3 == 0:
                        self.check_one_more(pact, hand, row, found)
        self.assertGreater(min(map(sizes.count, (0, 1, 2))), 50)

    def check_one_more(self, pact, hand, row, found):
        for note, wait in itertools.product(pact.names, repeat=2):
            if lies_under(pact, note, wait):
                continue
            holds = row_holds(wider_pact(pact, [(note, wait)]), hand, row)
            self.assertEqual(holds, any(wait in over and note in below for over, below in found))

    def test_errors(self):
        for call in (row_rectangles, row_waits):
            self.assertEqual(raised(NoName, call, base_pact(), "c", None), "c")
            for row, at in ((None, -1), ((), -1), (["a"], -1), (("a", "a"), 1), (("c",), 0), ((1,), 0)):
                self.assertEqual(raised(InvalidRow, call, base_pact(), "a", row), at)
            call(pact=base_pact(), hand="a", row=("a", "b"))

    def test_by_hand(self):
        self.assertEqual(row_rectangles(base_pact("o"), "b", ("a", "b")),
                         ((("n", "o", "p"), ("m",)), (("o", "p"), ("m", "n")), (("p",), ("m", "n", "o"))))


class OneWaitTest(unittest.TestCase):
    def test_against_the_words(self):
        sizes = []
        for pact in drawn(352, 60) + [base_pact(), base_pact("n"), base_pact("o"), loose_pact((2, 2))]:
            for family in all_families(pact.hands)[::3]:
                expected = []
                for note, wait in itertools.product(sorted(pact.names), repeat=2):
                    if apart(pact, note, wait) and is_just(wider_pact(pact, [(note, wait)]), family):
                        expected.append((note, wait))
                self.assertEqual(one_waits(pact, family), tuple(expected))
                sizes.append((is_just(pact, family), bool(expected)))
        for kind in itertools.product((True, False), repeat=2):
            self.assertGreater(sizes.count(kind), 10, kind)

    def test_forty_notes(self):
        hands = tuple("abcdef")
        names = note_names(40)
        notes = [(name, hands[at % 6], tuple(sorted(names[:max(at - 1, 0)]))) for at, name in enumerate(names)]
        pact = Pact(hands, notes, names[:6], names)
        self.assertEqual(one_waits(pact, (hands,)), one_waits(pact=pact, family=sized_family(hands, 5)))
        self.assertEqual(one_waits(loose_pact((7, 7, 7, 7, 6, 6)), (hands,)), ())
        self.assertEqual(raised(InvalidFamily, one_waits, pact, ((),) * 2), 1)


class RowWaitsTest(unittest.TestCase):
    def fewest(self, pact, hand, row, most):
        """The least number of pairs with which the row holds; None if it is above most."""
        pairs = [(note, wait) for note, wait in itertools.product(pact.names, repeat=2)
                 if not lies_under(pact, note, wait) and not lies_under(pact, wait, note)]
        for many in range(most + 1):
            for waits in itertools.combinations(pairs, many):
                try:
                    if row_holds(wider_pact(pact, waits), hand, row):
                        return many
                except Refused:
                    pass
        return None

    def test_the_fewest(self):
        sizes = []
        for pact in small_pacts(353, 90, notes=(4, 7), density=(0.0, 0.15, 0.35)):
            for row in all_rows(pact.hands):
                for hand in pact.hands:
                    found = row_waits(pact, hand, row)
                    sizes.append(None if found is None else len(found))
                    if found is None:
                        self.assertIsNone(self.fewest(pact, hand, row, 1))
                        continue
                    self.assertIsInstance(found, tuple)
                    self.assertTrue(row_holds(wider_pact(pact, found), hand, row))
                    self.assertEqual(found == (), row_holds(pact, hand, row))
                    if len(found) < 4:
                        self.assertIsNone(self.fewest(pact, hand, row, len(found) - 1))
        self.assertGreater(min(map(sizes.count, (None, 0, 1, 2))), 15)

    def test_none_at_all(self):
        many = 0
        for pact in small_pacts(354, 40, notes=(4, 5), density=(0.0, 0.35)):
            for row in all_rows(pact.hands):
                for hand in pact.hands:
                    if row_waits(pact, hand, row) is None:
                        # Each note may wait for all ahead in any order: more waits there are not.
                        for order in linear_orders(pact):
                            self.assertFalse(row_holds(told_in(pact, order), hand, row))
                        many += 1
        self.assertGreater(many, 15)

    def test_two_where_none_does_alone(self):
        pact = loose_pact((1, 1, 2))
        waits = row_waits(pact, "a", ("c", "b"))
        self.assertTrue(row_holds(wider_pact(pact, waits), "a", ("c", "b")))
        self.assertEqual(len(waits), 2)
        self.assertEqual(row_waits(pact, "a", ("a",)), ())

    def test_six_hands(self):
        hands = tuple("abcdef")
        loose = loose_pact((7, 7, 7, 7, 6, 6))
        self.assertIsNone(row_waits(loose, "f", hands))
        pact = Pact(hands, loose.notes, loose.ready, tuple(sorted(loose.names)))
        waits = row_waits(pact, "f", hands)
        self.assertEqual(len(waits), 6)
        self.assertTrue(row_holds(wider_pact(pact, waits), "f", hands))
        self.assertEqual(row_waits(chain_pact(hands, 40), "f", hands), ())


def linear_orders(pact):
    """All orders of the notes, each behind what lies under it."""
    under = naive_under(pact.notes)
    orders = [()]
    for _ in pact.names:
        orders = [order + (name,) for order in orders for name in sorted(pact.names)
                  if name not in order and under[name] - {name} <= set(order)]
    return orders


def told_in(pact, order):
    """The pact told in an order, each note waiting for all ahead."""
    owner = {name: hand for name, hand, _ in pact.notes}
    notes = [(name, owner[name], tuple(sorted(order[:at]))) for at, name in enumerate(order)]
    return Pact(pact.hands, notes, pact.ready, pact.paper)


class OrderTest(unittest.TestCase):
    def test_against_the_words(self):
        found = []
        for pact in small_pacts(355, 40, notes=(4, 6), density=(0.0, 0.2)) + close_pacts(355, 20, notes=(5, 7)) + [
                base_pact("n"), base_pact("o"), loose_pact((2, 2)), loose_pact((2, 2, 2))]:
            orders = linear_orders(pact)
            for family in all_families(pact.hands)[::4 if len(pact.hands) > 2 else 1]:
                expected = None
                for order in orders:
                    if is_just(told_in(pact, order), family):
                        expected = order
                        break
                self.assertEqual(just_order(pact, family), expected)
                found.append(expected is None)
        self.assertGreater(min(found.count(True), found.count(False)), 30)

    def test_all_notes_in_the_paper(self):
        for levels, family in (((3, 3), ONE_LIES), ((3, 3, 2), (("a",), ("b",))), ((3, 3, 3), (("a",), ("b", "c")))):
            loose = loose_pact(levels)
            pact = Pact(loose.hands, loose.notes, loose.ready, tuple(sorted(loose.names)))
            expected = [order for order in linear_orders(pact) if is_just(told_in(pact, order), family)]
            self.assertEqual(just_order(pact, family), min(expected, default=None))

    def test_some_waits_exactly_if_there_is_an_order(self):
        for pact in small_pacts(356, 30, hands=(2, 2), notes=(4, 5), density=(0.0, 0.2)):
            family = (tuple(sorted(pact.hands)),)
            pairs = [(note, wait) for note, wait in itertools.product(pact.names, repeat=2) if apart(pact, note, wait)]
            some = False
            for many in range(len(pairs) + 1):
                for waits in itertools.combinations(pairs, many):
                    try:
                        some = some or is_just(wider_pact(pact, waits), family)
                    except Refused:
                        pass
                if some or many == 4:
                    break
            if some or just_order(pact, family) is None:
                self.assertEqual(some, just_order(pact, family) is not None)

    def test_twelve_notes(self):
        for levels in ((6, 6), (4, 4, 4), (3, 3, 3, 3), (3, 3, 2, 2, 2), (2,) * 6):
            loose = loose_pact(levels)
            hands = loose.hands
            pact = Pact(hands, loose.notes, loose.ready, tuple(sorted(loose.names)))
            for many in range(len(hands) + 1):
                family = sized_family(hands, many)
                order = just_order(pact, family)
                if order is not None:
                    self.assertTrue(is_just(told_in(pact, order), family))
                if len(hands) < 4:
                    least = fewest_stretch(hands, family_wishes(hands, family))[0]
                    self.assertEqual(order is None, least + len(hands) - 1 > 12)
        self.assertEqual(just_order(pact=base_pact(), family=ONE_LIES), ("m", "n", "o", "p"))
        self.assertIsNone(just_order(base_pact("n"), ONE_LIES))
        self.assertEqual(raised(InvalidFamily, just_order, base_pact(), ()), -1)


class BehindTest(unittest.TestCase):
    def test_names_waits_and_paper(self):
        pact = Pact(("a", "b"), (("ab", "a", ()), ("m", "b", ())), ("ab", "m"), ("ab", "m"))
        found = behind_pact(pact, ["b", "b", "a"])
        self.assertEqual(found.notes, pact.notes + (("aa", "b", ("ab", "m")), ("ac", "b", ("aa", "ab", "m")),
                                                    ("ad", "a", ("aa", "ab", "ac", "m"))))
        self.assertEqual((found.hands, found.ready, found.paper), (pact.hands, pact.ready, tuple(sorted(found.names))))
        pact = base_pact("n")
        self.assertEqual(behind_pact(pact=pact, row=()), Pact(pact.hands, pact.notes, pact.ready, pact.names))
        self.assertEqual(behind_pact(base_pact(), ("a",) * 28).names[-2:], ("ba", "bb"))
        self.assertEqual(behind_pact(turns_pact(("a", "b"), ("a", "b") * 13), ("a",)).names[-1], "ba")

    def test_errors(self):
        pact = base_pact()
        self.assertEqual(raised(NoName, behind_pact, pact, ("a", "c", "m")), "c")
        self.assertEqual(raised(NoName, behind_pact, pact, ("a",) * 40 + ("x",)), "x")
        self.assertEqual(raised(InvalidPact, behind_pact, pact, ("a",) * 37), "notes")
        self.assertEqual(len(behind_pact(pact, ("a", "b") * 18).notes), 40)

    def test_the_shortest_turns(self):
        sizes = []
        for pact in drawn(357, 30) + [base_pact(), base_pact("n"), loose_pact((2, 2)), loose_pact((1, 1, 1))]:
            for family in all_families(pact.hands)[::3]:
                found = turns_behind(pact, family)
                sizes.append(len(found))
                self.assertTrue(is_just(behind_pact(pact, found), family))
                if len(found) <= 5:
                    just = [turns for many in range(len(found) + 1) for turns in all_turns(pact.hands, many)
                            if is_just(behind_pact(pact, turns), family)]
                    self.assertEqual(found, just[0])
        self.assertGreater(min(map(sizes.count, (0, 1, 2, 3))), 10)

    def test_it_may_be_none_for_a_torn_pact(self):
        pact = base_pact("n")
        self.assertFalse(is_just(pact, ONE_LIES))
        self.assertEqual(turns_behind(pact, ONE_LIES), ())
        self.assertEqual(turns_behind(pact=loose_pact((1, 1)), family=((),)), ("a", "b"))
        self.assertEqual(raised(InvalidFamily, turns_behind, pact, (("a",), ("a",))), 1)

    def test_what_must_be_a_part_of_it(self):
        rng = random.Random(358)
        for pact in drawn(358, 20):
            family = rng.choice(all_families(pact.hands))
            for _ in range(6):
                turns = tuple(rng.choice(pact.hands) for _ in range(rng.randrange(7)))
                rests = [row[len(climb(pact, hand, row)):] for row in court_rows(pact, family) for hand in pact.hands]
                just = all(is_part(rest, turns) for rest in rests)
                self.assertEqual(is_just(behind_pact(pact, turns), family), just)

    def test_four_hands(self):
        pact = loose_pact((1, 1, 1, 1))
        hands = tuple("abcd")
        lengths = [len(turns_behind(pact, sized_family(hands, many))) for many in range(5)]
        self.assertEqual(lengths, [4, 7, 10, 12, 12])
        turns = turns_behind(pact, (hands,))
        self.assertTrue(is_just(behind_pact(pact, turns), (hands,)))
        self.assertEqual(turns, tuple("abcdabcadbac"))

    def test_nobody_needs_more_behind_a_chain(self):
        hands = tuple("abc")
        pact = chain_pact(hands, 40)
        self.assertEqual(turns_behind(pact, (hands,)), ())
        self.assertEqual(key_note(behind_pact(pact, ()), "a"), pact.names[39])


if __name__ == "__main__":
    unittest.main()
