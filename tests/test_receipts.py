"""[79] and [80]: receipts in any order, and asks that were left out of a log."""

import itertools
import math
import random
import unittest

from boundorvoid.climbs import climb_from
from boundorvoid.errors import InvalidAsk, InvalidFamily, InvalidMoment, NoName, Refused
from boundorvoid.families import in_family
from boundorvoid.pacts import notes_of
from boundorvoid.receipts import nth_receipt_order, receipt_orders, right_orders, unlogged_asks
from boundorvoid.rightly import first_wrong_answer
from boundorvoid.rules import plain_answer
from boundorvoid.runs import heard_liars

from tests.helpers import all_families, all_rows, base_pact, chain_pact, close_pacts, naive_moments, raised
from tests.helpers import random_asks, random_history, rising_asks, small_pacts

ONE_LIES = (("a",), ("b",))
NO_HISTORIES = [(None, -1), (True, -1), (["x"], -1), ("ab", -1), ((None,), 0), ((("a", ()),), 0),
                ((("a", (), "void"), ("a", (), "void")), 1), ((("x", (), "void"),), 0), ((("a", ("n",), "void"),), 0),
                ((("a", (), "Void"),), 0), ((("a", (), "void"), ["b", (), "void"]), 1), ((("a", [], "void"),), 0)]


def told_plainly(pact, asks):
    history = ()
    for hand, moment in asks:
        history += ((hand, moment, plain_answer(pact, history, hand, moment)),)
    return history


def tried(seed, many, **sizes):
    """Pacts with receipts, most of them such that some order of them is the plain rule's."""
    rng = random.Random(seed)
    for pact in small_pacts(seed, many, **sizes) + close_pacts(seed, 2 * many, notes=(5, 8)):
        told = told_plainly(pact, rng.choice((random_asks, rising_asks))(rng, pact))
        yield pact, tuple(rng.sample(told, len(told)))
        yield pact, random_history(rng, pact)


def is_plain(pact, order):
    return all(plain_answer(pact, order[:at], hand, moment) == answer
               for at, (hand, moment, answer) in enumerate(order))


class OrdersTest(unittest.TestCase):
    def test_against_all_orders(self):
        found = []
        for pact, receipts in tried(790, 60, hands=(2, 4)):
            plain = sorted(order for order in itertools.permutations(receipts) if is_plain(pact, order))
            self.assertEqual(receipt_orders(pact, receipts), len(plain))
            for number, order in enumerate(plain):
                self.assertEqual(nth_receipt_order(pact, receipts, number), order)
            self.assertIsNone(nth_receipt_order(pact, receipts, len(plain)))
            self.assertIsNone(nth_receipt_order(pact, receipts, 10 ** 30))
            found.append((len(receipts) > 1, min(len(plain), 2)))
        for kind in ((True, 0), (True, 1), (True, 2)):
            self.assertGreater(found.count(kind), 15)

    def test_edges(self):
        pact = base_pact()
        self.assertEqual((receipt_orders(pact, ()), nth_receipt_order(pact, (), 0)), (1, ()))
        self.assertIsNone(nth_receipt_order(pact, (), 1))
        self.assertEqual(right_orders(pact, ((),), ()), 1)
        nobody = tuple((hand, (), "void") for hand in "fcabed")
        pact = chain_pact(tuple("fcabed"), 40)
        self.assertEqual(receipt_orders(pact=pact, receipts=nobody), 720)
        self.assertEqual(nth_receipt_order(pact=pact, receipts=nobody, number=0), tuple(sorted(nobody)))
        self.assertEqual(nth_receipt_order(pact, nobody, 719), tuple(sorted(nobody))[::-1])
        self.assertEqual(right_orders(pact, (tuple("abc"), tuple("def")), nobody), 720)

    def test_errors(self):
        pact = base_pact()
        for value, at in NO_HISTORIES:
            self.assertEqual(raised(InvalidAsk, receipt_orders, pact, value), at)
            self.assertEqual(raised(InvalidAsk, nth_receipt_order, pact, value, 0), at)
            self.assertEqual(raised(InvalidAsk, right_orders, pact, ((),), value), at)
            self.assertEqual(raised(InvalidFamily, right_orders, pact, (("c",),), value), 0)
        receipts = (("a", ("m",), "void"), ("b", ("m", "n", "o"), "void"))
        self.assertEqual(raised(Refused, right_orders, pact, (("b",),), receipts), "liars")

    def test_right_orders_against_all(self):
        rng, found = random.Random(791), []
        for pact, receipts in tried(791, 50, hands=(2, 4)):
            family = rng.choice(all_families(pact.hands)[:40])
            asks = tuple((hand, moment) for hand, moment, _ in receipts)
            if not in_family(family, heard_liars(pact, asks)):
                self.assertEqual(raised(Refused, right_orders, pact, family, receipts), "liars")
                continue
            right = [order for order in itertools.permutations(receipts)
                     if first_wrong_answer(pact, family, order) is None]
            self.assertEqual(right_orders(pact, family, receipts), len(right))
            found.append(0 if not right else 1 if len(right) < math.factorial(len(receipts)) else 2)
        for kind in range(3):
            self.assertGreater(found.count(kind), 15)

    def test_they_hang_on_lots_alone(self):
        rng = random.Random(792)
        for pact, receipts in tried(792, 40, hands=(3, 4)):
            family = rng.choice(all_families(pact.hands)[:40])
            known = {}
            for order in itertools.permutations(receipts):
                for at, (hand, moment, answer) in enumerate(order):
                    ahead = order[:at]
                    bounds = [k for k in range(at) if ahead[k][2] == "bound"]
                    lots = (frozenset(ahead), frozenset(ahead[:bounds[0]]) if bounds else None,
                            ahead[bounds[0]] if bounds else None)
                    told = (plain_answer(pact, ahead, hand, moment),
                            first_wrong_answer(pact, family, order[:at + 1]) == at)
                    plain = known.setdefault((lots, order[at]), told)
                    self.assertEqual(told[0], plain[0])
                    if first_wrong_answer(pact, family, ahead) is None:
                        self.assertEqual(told, known.setdefault((lots, order[at], "right"), told))


def naive_unlogged(pact, history, hand, moment, several=False):
    """The fewest asks that, put in at one place (or at several), make the plain rule void an ask."""
    fresh = [other for other in pact.hands if other != hand and all(other != told for told, _, _ in history)]
    moments = naive_moments(pact)
    for many in range(len(fresh) + 1):
        for row in itertools.permutations(fresh, many):
            for shown in itertools.product(moments, repeat=many):
                for places in all_places(len(history), many, several):
                    if voids_with(pact, history, hand, moment, list(zip(row, shown)), places):
                        return many
    return None


def all_places(most, many, several):
    if not several:
        return [(place,) * many for place in range(most + 1)]
    return list(itertools.combinations_with_replacement(range(most + 1), many))


def voids_with(pact, history, hand, moment, asks, places):
    told = ()
    for at in range(len(history) + 1):
        for (other, shown), place in zip(asks, places):
            if place == at:
                if plain_answer(pact, told, other, shown) != "void":
                    return False
                told += ((other, shown, "void"),)
        told += history[at:at + 1]
    return plain_answer(pact, told, hand, moment) == "void"


def voids(rng, pact):
    """A history of voids and one more ask."""
    asks = rng.choice((random_asks, rising_asks))(rng, pact, rng.randint(1, len(pact.hands)))
    history = tuple((hand, moment, "void") for hand, moment in asks[:-1])
    return history, asks[-1][0], rng.choice([asks[-1][1], tuple(sorted(pact.names))])


class UnloggedTest(unittest.TestCase):
    def test_against_all_asks(self):
        rng, found = random.Random(793), []
        pacts = close_pacts(793, 150, hands=(2, 3), notes=(5, 6)) + small_pacts(793, 50, hands=(2, 3), notes=(4, 5))
        for pact in pacts + [base_pact(), chain_pact(("b", "a", "c"), 6)]:
            for _ in range(2):
                history, hand, moment = voids(rng, pact)
                expected = naive_unlogged(pact, history, hand, moment)
                told = unlogged_asks(pact, history, hand, moment)
                self.assertEqual(told if told is None else len(told[1]), expected)
                if told is not None:
                    place, asks = told
                    self.assertIn(place, range(len(history) + 1))
                    self.assertTrue(voids_with(pact, history, hand, moment, asks, [place] * len(asks)))
                    hands = [other for other, _ in asks] + [other for other, _, _ in history] + [hand]
                    self.assertEqual(len(hands), len(set(hands)))
                    self.assertTrue(all(shown in naive_moments(pact) for _, shown in asks))
                found.append(expected)
        for kind in (None, 0, 1):
            self.assertGreater(found.count(kind), 20)
        self.assertGreater(found.count(2), 2)

    def test_no_fewer_do_at_several_places(self):
        rng, many = random.Random(794), 0
        for pact in close_pacts(794, 60, hands=(3, 3), notes=(6, 6)) + small_pacts(794, 40, hands=(3, 3), notes=(4, 5)):
            history, hand, moment = voids(rng, pact)
            if len(history) != 1:
                continue
            expected = naive_unlogged(pact, history, hand, moment, several=True)
            told = unlogged_asks(pact, history, hand, moment)
            self.assertEqual(told if told is None else len(told[1]), expected)
            many += 1
        self.assertGreater(many, 15)

    def test_as_many_as_the_shortest_row(self):
        rng, found = random.Random(795), []
        for pact in close_pacts(795, 120, hands=(3, 5), notes=(8, 16)):
            history, hand, moment = voids(rng, pact) if len(pact.names) < 11 else ((), pact.hands[0], ())
            if rng.random() < 0.7:
                moment = tuple(sorted(pact.names))
            told = unlogged_asks(pact, history, hand, moment)
            if told is not None and not told[1]:
                self.assertEqual(plain_answer(pact, history, hand, moment), "void")
                continue
            self.assertEqual(plain_answer(pact, history, hand, moment), "bound")
            fresh = [other for other in pact.hands if other not in [hand] + [entry[0] for entry in history]]
            seen = {name for _, shown, _ in history for name in shown} | set(moment)
            awaited = set()
            for place in range(len(history) + 1):
                awaited |= naive_awaited(pact, history[:place])
            rows = [row for row in all_rows(fresh) for note in awaited
                    if len(climb_from(pact, note, row)) < len(row) or climb_from(pact, note, row)[-1] not in seen]
            self.assertEqual(None if told is None else len(told[1]), len(rows[0]) if rows else None)
            found.append(len(rows[0]) if rows else None)
        self.assertGreater(len(set(found)), 2)

    def test_errors(self):
        pact = base_pact()
        for value, at in NO_HISTORIES:
            self.assertEqual(raised(InvalidAsk, unlogged_asks, pact, value, "x", None), at)
        self.assertEqual(raised(NoName, unlogged_asks, pact, (), "x", None), "x")
        self.assertEqual(raised(InvalidMoment, unlogged_asks, pact, (("a", (), "bound"),), "a", ("n",)), 0)
        self.assertEqual(raised(Refused, unlogged_asks, pact, (("a", (), "bound"),), "a", ()), "asked")
        self.assertEqual(raised(Refused, unlogged_asks, pact, (("a", (), "bound"),), "b", ()), "bound")
        self.assertEqual(unlogged_asks(pact=pact, history=(), hand="b", moment=("m",))[1], ())

    def test_none_or_two(self):
        # With all notes shown, no ask can have been left out; three hands may need two asks.
        pact = chain_pact(("a", "b", "c"), 7)
        self.assertIsNone(unlogged_asks(pact, (), "c", tuple(sorted(pact.names))))
        place, asks = unlogged_asks(pact, (), "c", tuple(sorted(pact.names))[:6])
        self.assertEqual((place, len(asks)), (0, 2))
        self.assertEqual(notes_of(pact, "a"), ("aa", "ad", "ag"))


def naive_awaited(pact, history):
    seen = {name for _, shown, _ in history for name in shown}
    found = {note for note in pact.ready if note not in seen}
    for hand, shown, _ in history:
        left = [name for name in notes_of(pact, hand) if name not in shown]
        if left and not seen & set(left):
            found.add(left[0])
    return found


if __name__ == "__main__":
    unittest.main()
