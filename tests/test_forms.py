"""[9] and [10]: bare waits, orders, forms, and notes from clocks."""

import itertools
import random
import unittest

from boundorvoid.errors import InvalidRow, NoName
from boundorvoid.forms import bare_form, bare_paper, bare_waits, clocked_notes, full_form, least_order
from boundorvoid.forms import retold_pact, same_web, telling_count
from boundorvoid.heights import clocks_of
from boundorvoid.pacts import Pact, hand_of, lies_under, notes_of, under_of, whole_paper

from tests.helpers import base_pact, chain_pact, loose_pact, naive_under, note_names, raised, small_pacts, subsets

NOTES = [("m", "a", ()), ("n", "b", ("m",)), ("o", "a", ()), ("p", "b", ("o",))]


def example():
    return Pact(["a", "b"], NOTES, ["m", "n"], ("n", "o"))


def told_otherwise(pact, at, waits):
    notes = list(pact.notes)
    notes[at] = (notes[at][0], notes[at][1], waits)
    return Pact(pact.hands, notes, pact.ready, tuple(sorted(pact.names)))


def orders_of(pact):
    """All orders of the notes in which each comes behind what lies under it."""
    under = naive_under(pact.notes)
    for order in itertools.permutations(sorted(pact.names)):
        if all(under[name] <= set(order[:at + 1]) for at, name in enumerate(order)):
            yield order


class BareTest(unittest.TestCase):
    def test_the_example(self):
        pact = example()
        found = bare_waits(pact, "p"), bare_waits(pact, "o"), bare_paper(pact), telling_count(pact)
        self.assertEqual(found, (("o",), (), ("n", "o"), 16))
        self.assertEqual(bare_waits(pact=pact, note="n"), ("m",))
        self.assertEqual(bare_paper(pact=pact), ("n", "o"))
        self.assertEqual(telling_count(pact=pact), 16)
        self.assertEqual(raised(NoName, bare_waits, pact, "a"), "a")

    def test_against_the_words(self):
        for pact in small_pacts(11, 100, hands=(2, 4), notes=(2, 9)):
            under = naive_under(pact.notes)
            for note in pact.names:
                row = notes_of(pact, hand_of(pact, note))
                ahead = row[:row.index(note)][-1:]
                bare = [x for x in under[note] - {note} - set(ahead)
                        if not any(x in under[third] for third in under[note] - {note, x})]
                self.assertEqual(bare_waits(pact, note), tuple(sorted(bare)))
            whole = set(whole_paper(pact))
            tops = [x for x in whole if not any(x in under[other] for other in whole - {x})]
            self.assertEqual(bare_paper(pact), tuple(sorted(tops)))

    def test_what_stays_if_told_otherwise(self):
        for pact in small_pacts(12, 40, hands=(2, 3), notes=(3, 6)):
            under, many = naive_under(pact.notes), 1
            for at, note in enumerate(pact.names):
                fine = 0
                for waits in subsets(sorted(pact.names[:at])):
                    stays = naive_under(told_otherwise(pact, at, waits).notes) == under
                    inside = set(waits) <= under[note] and set(bare_waits(pact, note)) <= set(waits)
                    self.assertEqual(stays, inside)
                    fine += stays
                many *= fine
            papers = 0
            for paper in subsets(sorted(pact.names)):
                whole = set().union(*(under[name] for name in paper)) if paper else set()
                stays = whole == set(whole_paper(pact))
                inside = set(bare_paper(pact)) <= set(paper) <= set(whole_paper(pact))
                self.assertEqual(stays, inside)
                papers += stays
            self.assertEqual(telling_count(pact), many * papers)

    def test_forty_notes(self):
        pact = chain_pact(["a", "b"], 40)
        self.assertEqual(bare_waits(pact, note_names(40)[-1]), (note_names(40)[-2],))
        self.assertEqual(bare_paper(pact), note_names(40)[-1:])
        self.assertEqual(telling_count(pact), 2 ** (39 + sum(range(39))))


class OrderTest(unittest.TestCase):
    def test_retold(self):
        pact = Pact(["a", "b"], [("m", "a", ()), ("n", "b", ()), ("o", "a", ("n",))], ["m", "n"], ("n", "o"))
        other = retold_pact(pact, ("n", "m", "o"))
        self.assertEqual(other.notes, (("n", "b", ()), ("m", "a", ()), ("o", "a", ("n",))))
        self.assertEqual((other.ready, other.paper, other.hands), (pact.ready, pact.paper, pact.hands))
        self.assertTrue(same_web(pact, other))
        self.assertEqual(retold_pact(pact=pact, order=pact.names), pact)

    def test_wrong_orders(self):
        pact = example()
        for order in (None, "mnop", ["m", "n", "o", "p"], 3, True):
            self.assertEqual(raised(InvalidRow, retold_pact, pact, order), -1)
        for order, at in (((), 0), (("m",), 1), (("m", "n", "o"), 3), (("n", "m", "o", "p"), 0),
                          (("m", "m"), 1), (("m", "x"), 1), (("m", None), 1), (("m", ["n"]), 1), (("m", "a"), 1),
                          (("m", "p", "n", "o"), 1), (("m", "n", "o", "p", "p"), 4), (("m", "n", "o", "p", "q"), 4),
                          ((1, 2), 0), ((pact,), 0), (("p",), 0)):
            self.assertEqual(raised(InvalidRow, retold_pact, pact, order), at, order)

    def test_all_orders(self):
        for pact in small_pacts(13, 40, hands=(2, 3), notes=(3, 6)):
            fine = set(orders_of(pact))
            self.assertEqual(least_order(pact), min(fine))
            for order in itertools.permutations(pact.names):
                if order in fine:
                    other = retold_pact(pact, order)
                    self.assertEqual(other.names, order)
                    self.assertEqual(naive_under(other.notes), naive_under(pact.notes))
                    self.assertEqual(sorted(other.notes), sorted(pact.notes))
                else:
                    self.assertGreaterEqual(raised(InvalidRow, retold_pact, pact, order), 0)

    def test_least_order_is_greedy(self):
        for pact in small_pacts(14, 60, hands=(2, 4), notes=(2, 9)):
            under, come = naive_under(pact.notes), []
            while len(come) < len(pact.names):
                come.append(min(name for name in pact.names
                                if name not in come and under[name] - {name} <= set(come)))
            self.assertEqual(least_order(pact=pact), tuple(come))


class FormsTest(unittest.TestCase):
    def test_forms(self):
        for pact in small_pacts(15, 60, hands=(2, 4), notes=(2, 9)):
            bare, full = bare_form(pact), full_form(pact=pact)
            self.assertEqual((bare.names, full.names), (least_order(pact), least_order(pact)))
            for form in (bare, full):
                self.assertTrue(same_web(pact, form))
                self.assertEqual((form.hands, form.ready), (pact.hands, pact.ready))
                self.assertEqual((bare_form(form), full_form(form)), (bare, full))
            for name, hand, waits in bare.notes:
                self.assertEqual((hand, waits), (hand_of(pact, name), bare_waits(pact, name)))
            for name, hand, waits in full.notes:
                self.assertEqual(waits, tuple(x for x in under_of(pact, name) if x != name))
            self.assertEqual((bare.paper, full.paper), (bare_paper(pact), whole_paper(pact)))

    def test_the_example_forms(self):
        pact = Pact(["a", "b"], [("z", "a", ()), ("n", "b", ()), ("o", "a", ("n", "z")), ("p", "b", ("n", "o", "z"))],
                    ["z", "n"], ("n", "p"))
        self.assertEqual(bare_form(pact=pact).notes,
                         (("n", "b", ()), ("z", "a", ()), ("o", "a", ("n",)), ("p", "b", ("o",))))
        self.assertEqual(bare_form(pact).paper, ("p",))
        self.assertEqual(full_form(pact).notes,
                         (("n", "b", ()), ("z", "a", ()), ("o", "a", ("n", "z")), ("p", "b", ("n", "o", "z"))))
        self.assertEqual(full_form(pact).paper, ("n", "o", "p", "z"))

    def test_same_web(self):
        pacts = [pact for pact in tiny_pacts()]
        webs = [(pact.hands, pact.ready, whole_paper(pact), sorted(pact.notes, key=lambda note: note[0])[0][1],
                 [(name, hand_of(pact, name), under_of(pact, name)) for name in sorted(pact.names)]) for pact in pacts]
        alike = 0
        for one, web in zip(pacts, webs):
            for other, otherweb in zip(pacts, webs):
                same = same_web(one, other)
                self.assertEqual(same, web == otherweb)
                self.assertEqual(same, bare_form(one) == bare_form(other))
                self.assertEqual(same, full_form(one) == full_form(other))
                alike += same
        self.assertGreater(alike, len(pacts))

    def test_same_web_tells_each_part(self):
        pact = example()
        self.assertIs(same_web(one=pact, other=Pact(pact.hands, NOTES, pact.ready, ("m", "n", "o"))), True)
        self.assertIs(same_web(pact, Pact(pact.hands, NOTES, pact.ready, ("o", "p"))), False)
        self.assertIs(same_web(pact, Pact(pact.hands, NOTES, ("o", "n"), pact.paper)), False)
        self.assertIs(same_web(pact, Pact(pact.hands[::-1], NOTES, pact.ready[::-1], pact.paper)), False)
        notes = NOTES[:3] + [("q", "b", ("o",))]
        self.assertIs(same_web(pact, Pact(pact.hands, notes, pact.ready, pact.paper)), False)
        notes = NOTES[:3] + [("p", "a", ("n", "o"))]
        self.assertIs(same_web(pact, Pact(pact.hands, notes, pact.ready, pact.paper)), False)


def tiny_pacts():
    """Many ways to tell pacts of three notes."""
    rng = random.Random(16)
    found = []
    for order in itertools.permutations((("m", "a"), ("n", "b"), ("o", "a"))):
        names = [name for name, _ in order]
        for waits in itertools.product(*(subsets(sorted(names[:at])) for at in range(3))):
            notes = [(name, hand, wait) for (name, hand), wait in zip(order, waits)]
            for ready in ("m", "o"):
                for paper in (("m", "n", "o"), ("m", "n"), ("n", "o")):
                    found.append(Pact(["a", "b"], notes, [ready, "n"], paper))
    return rng.sample(found, 90)


class ClockedTest(unittest.TestCase):
    def test_clocks_give_the_notes_back(self):
        for pact in small_pacts(17, 80, hands=(2, 4), notes=(2, 9)) + [chain_pact(["b", "a"], 40)]:
            rows = [notes_of(pact, hand) for hand in pact.hands]
            table = clocks_of(pact)
            notes = clocked_notes(pact.hands, rows, table)
            self.assertEqual(notes, bare_form(pact).notes)
            listed = [[list(clock) for clock in row] for row in table]
            again = clocked_notes(hands=list(pact.hands), rows=[list(row) for row in rows], table=listed)
            self.assertEqual(again, notes)

    def test_a_fault(self):
        self.assertIsNone(clocked_notes(("a", "b"), (("m",), ("n",)), (((1, 1),), ((1, 1),))))
        self.assertIsNone(clocked_notes(["a", "b"], [["m"], ["n"]], [[(1, 1)], [[1, 1]]]))
        self.assertEqual(clocked_notes(("a", "b"), (("z",), ("m",)), (((1, 1),), ((0, 1),))),
                         (("m", "b", ()), ("z", "a", ("m",))))

    def test_calls_between_change_nothing(self):
        one, other = base_pact(), loose_pact((2, 2))
        before = (bare_form(one), full_form(one), least_order(one), telling_count(one))
        self.assertNotEqual((bare_form(other), full_form(other), least_order(other), telling_count(other)), before)
        self.assertEqual((bare_form(one), full_form(one), least_order(one), telling_count(one)), before)
        self.assertFalse(lies_under(other, "aaa", "baa"))


if __name__ == "__main__":
    unittest.main()
