"""[68] to [73]: who can choose."""

import itertools
import random
import unittest

from boundorvoid.borne import bears_lot
from boundorvoid.climbs import climb, row_moments
from boundorvoid.court import Just, court, highest_level
from boundorvoid.errors import InvalidFamily, InvalidMoment, InvalidRow, NoName, Refused
from boundorvoid.families import all_lots, sized_family
from boundorvoid.heights import closure_of
from boundorvoid.pacts import Pact, hand_of, key_note, lies_under, notes_of, ready_note, whole_paper
from boundorvoid.power import can_bind, can_void, choice_stretch, choosing_lots, company_reach, first_choice
from boundorvoid.power import greatest_stretch, least_stretch, readies_moment, settled_moment, turning_note
from boundorvoid.power import voiding_way, voids_for_good
from boundorvoid.prospects import Lost, prospect
from boundorvoid.rules import plain_answer

from tests.helpers import all_families, all_rows, base_pact, chain_pact, close_pacts, naive_moments, naive_under
from tests.helpers import owners_of, raised, random_rule, small_pacts, subsets

ONE_LIES = (("a",), ("b",))


def is_company(pact, lot):
    return bool(lot) and (bears_lot(pact, lot) or len(lot) == 1 and bears_lot(pact, ()))


def with_late_readies(pact, rng):
    """The pact with any of the first three notes of each hand as its ready note."""
    return Pact(pact.hands, pact.notes, [rng.choice(notes_of(pact, hand)[:3]) for hand in pact.hands], pact.paper)


def just_pacts(seed, many, families=2, **sizes):
    """Pacts with families for which they are just."""
    rng = random.Random(seed)
    pacts = close_pacts(seed, many, **sizes)
    pacts += [with_late_readies(pact, rng) for pact in close_pacts(seed + 7000, many, **sizes)]
    for pact in pacts + [base_pact(), chain_pact(("b", "a", "c"), 7)]:
        fitting = [family for family in all_families(pact.hands) if isinstance(court(pact, family), Just)]
        for family in rng.sample(fitting, min(families, len(fitting))):
            yield pact, family


def companies(pact, family):
    lots = {lot for lot in all_lots(family) if lot} | {(hand,) for hand in pact.hands}
    return sorted(lots, key=lambda lot: (len(lot), lot))


def all_orders(pact):
    """All orders in which the whole paper can be sent."""
    under, whole = naive_under(pact.notes), whole_paper(pact)
    orders = [()]
    for _ in whole:
        orders = [order + (name,) for order in orders for name in whole
                  if name not in order and under[name] - {name} <= set(order)]
    return orders


class CompanyTest(unittest.TestCase):
    def test_reach_against_all_moments(self):
        for pact in close_pacts(680, 60, notes=(5, 8)):
            moments = naive_moments(pact)
            owners = owners_of(pact)
            for lot in filter(lambda lot: is_company(pact, lot), subsets(sorted(pact.hands))):
                for moment in moments[::3]:
                    above = [other for other in moments if set(moment) <= set(other) and
                             all(owners[name] in lot for name in set(other) - set(moment))]
                    self.assertEqual(company_reach(pact, lot, moment), max(above, key=len))
                    self.assertTrue(all(set(other) <= set(max(above, key=len)) for other in above))

    def test_turning_notes(self):
        many = 0
        for pact in small_pacts(681, 40) + close_pacts(681, 60):
            for lot in filter(lambda lot: is_company(pact, lot), subsets(sorted(pact.hands))):
                for hand in lot:
                    note = turning_note(pact, lot, hand)
                    self.assertEqual(note, notes_of(pact, hand)[highest_level(pact, lot, hand)])
                    self.assertTrue(lies_under(pact, note, key_note(pact, hand)))
                    self.assertTrue(all(lies_under(pact, ready_note(pact, other), note) for other in pact.hands))
                    many += len(lot) > 1
        self.assertGreater(many, 30)

    def test_readies(self):
        for pact in small_pacts(682, 40):
            self.assertEqual(readies_moment(pact), closure_of(pact, tuple(sorted(pact.ready))))

    def calls(self, pact, lot, moment):
        return [(company_reach, (pact, lot, moment)), (can_bind, (pact, lot, moment)), (can_void, (pact, lot, moment)),
                (voiding_way, (pact, lot, moment))]

    def test_errors(self):
        pact = base_pact()
        for call, told in self.calls(pact, ("u", "v"), None) + [(turning_note, (pact, ("u", "v"), "w"))]:
            self.assertEqual(raised(NoName, call, *told), "u")
        for lot in ((), ("a", "b")):
            for call, told in self.calls(base_pact("o"), lot, None) + [(turning_note, (base_pact("o"), lot, "w"))]:
                self.assertEqual(raised(Refused, call, *told), "lot")
        for call, told in self.calls(base_pact("m n"), ("a",), None) + [(turning_note, (base_pact("m n"), ("a",), "w"))]:
            self.assertEqual(raised(Refused, call, *told), "lot")
        for value, at in ((None, -1), (["m"], -1), (("n",), 0), (("m", "x"), 1)):
            for call, told in self.calls(pact, ("a",), value):
                self.assertEqual(raised(InvalidMoment, call, *told), at)
            self.assertEqual(raised(InvalidMoment, voids_for_good, pact, value, None), at)
        self.assertEqual(raised(NoName, turning_note, pact, ("a",), "b"), "b")
        self.assertEqual(raised(NoName, turning_note, pact, ("a",), "w"), "w")
        self.assertEqual(company_reach(pact=pact, lot=("a",), moment=("m", "n")), ("m", "n", "o"))

    def test_what_is_a_company(self):
        found = []
        for pact in small_pacts(683, 60, hands=(2, 4)) + close_pacts(683, 60):
            for lot in subsets(sorted(pact.hands)):
                if is_company(pact, lot):
                    company_reach(pact, lot, ())
                    found.append("alone" if not bears_lot(pact, lot) else len(lot))
                else:
                    self.assertEqual(raised(Refused, company_reach, pact, lot, ()), "lot")
                    found.append("none")
        for kind in ("alone", "none", 1, 2):
            self.assertGreater(found.count(kind), 20)


class CanTest(unittest.TestCase):
    def tried(self, seed, many, notes=(5, 8)):
        for pact in close_pacts(seed, many, notes=notes) + [base_pact(), chain_pact(("b", "a", "c"), 7)]:
            for lot in subsets(sorted(pact.hands)):
                if is_company(pact, lot):
                    for moment in naive_moments(pact):
                        yield pact, lot, moment

    def test_against_the_words(self):
        found = []
        for pact, lot, moment in self.tried(684, 40):
            reach = set(company_reach(pact, lot, moment))
            bind = set(readies_moment(pact)) <= reach
            void = any(turning_note(pact, lot, hand) not in moment for hand in lot)
            self.assertIs(can_bind(pact, lot, moment), bind)
            self.assertIs(can_void(pact, lot, moment), void)
            found.append((bind, void))
        for kind in itertools.product((True, False), repeat=2):
            if kind != (False, False):
                self.assertGreater(found.count(kind), 30)

    def test_who_can_bind_is_told_bound(self):
        for pact, lot, moment in self.tried(685, 40):
            bind = can_bind(pact, lot, moment)
            reach = company_reach(pact, lot, moment)
            for hand in lot:
                self.assertEqual(plain_answer(pact, (), hand, reach), "bound" if bind else "void")

    def test_the_way_to_void(self):
        many = 0
        for pact, lot, moment in self.tried(686, 50):
            way = voiding_way(pact, lot, moment)
            self.assertEqual(way is None, not can_void(pact, lot, moment))
            if way is None:
                continue
            rows = [(row, hand) for row in all_rows(lot) for hand in sorted(pact.hands)
                    if climb(pact, hand, row)[-1] not in moment]
            row, hand = rows[0]
            moments = [tuple(sorted(set(own) & set(moment))) for own in row_moments(pact, hand, row)]
            self.assertEqual(way, tuple(("ask", other, shown) for other, shown in zip(row, moments)))
            self.assertIs(voids_for_good(pact, moment, way), True)
            many += len(way) > 1
        self.assertGreater(many, 5)

    def later_asks(self, pact, history, moments):
        """All histories of the plain rule with one more ask, of hands that have not asked."""
        for hand in pact.hands:
            if hand not in [entry[0] for entry in history]:
                for moment in moments:
                    yield history + ((hand, moment, plain_answer(pact, history, hand, moment)),)

    def test_behind_it_nobody_is_told_bound(self):
        rng = random.Random(687)
        tried = [told for told in self.tried(687, 40, notes=(5, 7)) if can_void(*told)]
        for pact, lot, moment in rng.sample(tried, 60):
            way = voiding_way(pact, lot, moment)
            told = tuple((hand, shown, "void") for _, hand, shown in way)
            moments = naive_moments(pact)
            # The last hand that asked sends no more; then not all of the paper is sent, and nobody is told bound.
            owner = way[-1][1]
            own = set(notes_of(pact, owner)) - set(moment)
            self.assertIn(key_note(pact, owner), own)
            left = [other for other in moments if not own & set(other)]
            histories = [told]
            while histories:
                histories = [longer for history in histories for longer in self.later_asks(pact, history, left)]
                for history in rng.sample(histories, min(40, len(histories))):
                    self.assertEqual(history[-1][2], "void")

    def test_every_right_rule_answers_these_asks_so(self):
        many = 0
        for pact, lot, moment in self.tried(688, 40):
            way = voiding_way(pact, lot, moment)
            liars = lot if len(lot) > 1 else ()
            if way is None or not isinstance(court(pact, (liars,)), Just):
                continue
            history = ()
            for _, hand, shown in way:
                bound = prospect(pact, (liars,), history + ((hand, shown, "bound"),))
                self.assertIsInstance(bound, Lost)
                history += ((hand, shown, "void"),)
                many += 1
        self.assertGreater(many, 50)

    def test_who_cannot_void_is_told_bound(self):
        rng = random.Random(689)
        tried = [told for told in self.tried(689, 50) if not can_void(*told) and len(told[1]) < len(told[0].hands)]
        self.assertGreater(len(tried), 60)
        for pact, lot, moment in rng.sample(tried, 60):
            within = [other for other in naive_moments(pact) if set(other) <= set(moment)]
            for row in all_rows(lot):
                for shown in itertools.islice(itertools.product(rng.sample(within, len(within)), repeat=len(row)), 60):
                    history = ()
                    for hand, own in zip(row, shown):
                        history += ((hand, own, plain_answer(pact, history, hand, own)),)
                    for other in set(pact.hands) - set(lot):
                        self.assertEqual(plain_answer(pact, history, other, moment), "bound")

    def test_with_more_hands_a_company_can_all_that_it_could(self):
        for pact, family in just_pacts(690, 40, notes=(5, 8)):
            lots = companies(pact, family)
            for one, other in itertools.product(lots, repeat=2):
                if set(one) <= set(other):
                    for moment in naive_moments(pact)[::4]:
                        self.assertTrue(can_bind(pact, other, moment) or not can_bind(pact, one, moment))
                        self.assertTrue(can_void(pact, other, moment) or not can_void(pact, one, moment))


class VoidsForGoodTest(unittest.TestCase):
    def naive(self, pact, moment, value):
        history = ()
        for _, hand, shown in value:
            if hand in [entry[0] for entry in history] or not set(shown) <= set(moment):
                return False
            if plain_answer(pact, history, hand, shown) != "void":
                return False
            history += ((hand, shown, "void"),)
        return any(key_note(pact, hand) not in moment and set(notes_of(pact, hand)) & set(moment) <= set(shown)
                   for hand, shown, _ in history)

    def test_against_the_words(self):
        rng, found = random.Random(691), []
        for pact in close_pacts(691, 80, notes=(5, 7)) + small_pacts(691, 40):
            moments = naive_moments(pact)
            for _ in range(12):
                moment = rng.choice(moments)
                within = [other for other in moments if set(other) <= set(moment)]
                pool = rng.choice((moments, within, within, [moment]))
                value = tuple(("ask", rng.choice(pact.hands), rng.choice(pool)) for _ in range(rng.randint(0, 3)))
                expected = self.naive(pact, moment, value)
                self.assertIs(voids_for_good(pact, moment, value), expected)
                found.append(expected)
        self.assertGreater(min(found.count(True), found.count(False)), 100)

    def test_any_values(self):
        pact = base_pact()
        self.assertIs(voids_for_good(pact, ("m",), (("ask", "b", ()),)), True)
        for value in (None, True, 1, "ask", [("ask", "b", ())], (["ask", "b", ()],), (("ask", "b", []),), ("ask",),
                      (("ask", "b"),), (("send", "m"),), (("ask", "x", ()),), (("ask", "b", ("n",)),), (None,), (),
                      (("ask", "b", ("m", "n")),), (("ask", "b", ()), ("ask", "b", ())), (("ask", ["b"], ()),),
                      (("ask", "b", None),), (("ask", "b", (), ()),), (("bound", "b", ()),), (("ask", "a", ()),)):
            self.assertIs(voids_for_good(pact, ("m",), value), False)
        self.assertIs(voids_for_good(pact=pact, moment=(), value=(("ask", "a", ()),)), True)
        self.assertIs(voids_for_good(pact, ("m", "n", "o", "p"), (("ask", "a", ("m",)),)), False)


class ChoosingTest(unittest.TestCase):
    def test_against_the_words(self):
        found = []
        for pact, family in just_pacts(692, 60, notes=(5, 8)):
            lots = companies(pact, family)
            settled = settled_moment(pact, family)
            notes = {turning_note(pact, lot, hand) for lot in lots for hand in lot}
            self.assertEqual(settled, closure_of(pact, tuple(sorted(notes))))
            for moment in naive_moments(pact):
                able = [lot for lot in lots if can_bind(pact, lot, moment) and can_void(pact, lot, moment)]
                least = tuple(lot for lot in able if not any(set(other) < set(lot) for other in able))
                self.assertEqual(choosing_lots(pact, family, moment), least)
                nobody = not any(can_void(pact, lot, moment) for lot in lots)
                self.assertEqual(nobody, set(settled) <= set(moment))
                found.append(max(map(len, least), default=0))
        for size in range(3):
            self.assertGreater(found.count(size), 5)

    def test_errors(self):
        pact = base_pact()
        calls = [(choosing_lots, (None,)), (settled_moment, ()), (choice_stretch, (None,)), (least_stretch, ()),
                 (greatest_stretch, ())]
        for call, told in calls:
            self.assertEqual(raised(InvalidFamily, call, pact, (("a",), ("c",)), *told), 1)
            self.assertEqual(raised(InvalidFamily, call, base_pact("n"), None, *told), -1)
            self.assertEqual(raised(Refused, call, base_pact("o"), (("a", "b"),), *told), "torn")
            self.assertEqual(raised(Refused, call, base_pact("n"), ((),), *told), "torn")
        self.assertEqual(raised(InvalidMoment, choosing_lots, pact, ((),), ("n",)), 0)
        self.assertEqual(choosing_lots(pact=pact, family=ONE_LIES, moment=("m",)), (("b",),))

    def test_moments_that_are_empty_and_whole(self):
        at_once = 0
        for pact, family in just_pacts(693, 60):
            self.assertEqual(choosing_lots(pact, family, tuple(sorted(pact.names))), ())
            self.assertEqual(choosing_lots(pact, family, whole_paper(pact)), ())
            for lot in choosing_lots(pact, family, ()):
                # Only who owns all that the ready notes need can bind when nothing is sent.
                self.assertLessEqual({hand_of(pact, name) for name in readies_moment(pact)}, set(lot))
                at_once += 1
        self.assertGreater(at_once, 0)


class StretchTest(unittest.TestCase):
    def test_against_all_orders(self):
        wide = 0
        for pact, family in just_pacts(694, 150, hands=(2, 4), notes=(5, 7)):
            orders = all_orders(pact)
            if len(orders) > 400:
                continue
            lengths = []
            for order in orders:
                first, behind = choice_stretch(pact, family, order)
                self.assertLess(first, behind)
                for many in range(len(order) + 1):
                    able = choosing_lots(pact, family, tuple(sorted(order[:many])))
                    self.assertEqual(bool(able), first <= many < behind)
                lengths.append(behind - first)
            for call, expected in ((least_stretch, min(lengths)), (greatest_stretch, max(lengths))):
                many, order = call(pact, family)
                self.assertEqual(many, expected)
                self.assertIn(order, orders)
                first, behind = choice_stretch(pact, family, order)
                self.assertEqual(behind - first, many)
            wide += min(lengths) < max(lengths)
            if family == ((),):
                self.assertGreaterEqual(min(lengths), len(pact.hands))
        self.assertGreater(wide, 20)

    def test_greater_pacts(self):
        pacts = close_pacts(695, 40, hands=(4, 6), notes=(18, 30)) + [chain_pact(tuple("fcabed"), 40)]
        tried = 0
        for pact in pacts:
            hands = tuple(sorted(pact.hands))
            for family in (((),), sized_family(hands, 1), sized_family(hands, 3), (hands,), (hands[:2], hands[3:])):
                if not isinstance(court(pact, family), Just):
                    continue
                for call in (least_stretch, greatest_stretch):
                    many, order = call(pact, family)
                    first, behind = choice_stretch(pact, family, order)
                    self.assertEqual(behind - first, many)
                self.assertLessEqual(least_stretch(pact, family)[0], greatest_stretch(pact, family)[0])
                tried += 1
        self.assertGreater(tried, 20)

    def test_all_hands_a_company(self):
        many = 0
        for pact in close_pacts(696, 200, hands=(2, 3), notes=(8, 11)):
            hands = tuple(sorted(pact.hands))
            if bears_lot(pact, hands):
                settled = settled_moment(pact, (hands,))
                self.assertEqual(least_stretch(pact, (hands,))[0], len(settled))
                many += 1
        self.assertGreater(many, 10)

    def test_orders_that_are_none(self):
        pact = base_pact("o")
        rule = random_rule(1)
        for value, at in ((None, -1), (["m", "n", "o"], -1), ("mno", -1), (True, -1), (("x", "n"), 0), (("n",), 0),
                          (("m", "p"), 1), (("m", "n", "n"), 2), (("m", "o"), 1), (("m", "n", "o", "p"), 3), ((), 0),
                          (("m", "n"), 2), ((1,), 0), ((["m"],), 0), (("m", True, "o"), 1), (("m", "m", "n"), 1),
                          (("m", "n", "o", "o"), 3)):
            self.assertEqual(raised(InvalidRow, choice_stretch, pact, ((),), value), at)
            self.assertEqual(raised(InvalidRow, first_choice, pact, value, rule), at)
        self.assertEqual(choice_stretch(pact=pact, family=((),), order=("m", "n", "o")),
                         choice_stretch(pact, ((),), ("m", "n", "o")))

    def test_orders_with_one_thing_wrong_at_any_place(self):
        rng = random.Random(697)
        for pact, family in just_pacts(697, 20, families=1):
            order = rng.choice(all_orders(pact)[:50])
            outside = [name for name in pact.names if name not in order]
            for at in range(len(order)):
                for wrong in [None, True, "zz", [order[at]], *order[:at][-1:], *outside[:1]]:
                    self.assertEqual(raised(InvalidRow, choice_stretch, pact, family,
                                            order[:at] + (wrong,) + order[at + 1:]), at)
                self.assertEqual(raised(InvalidRow, choice_stretch, pact, family, order[:at]), at)


class FirstChoiceTest(unittest.TestCase):
    def by_calls(self, bound_at=None, wrong=None):
        """A rule that notes its calls, and says bound at one of them, or returns what is no answer there."""
        calls = []

        def rule(history, hand, moment):
            calls.append((history, hand, moment))
            if len(calls) - 1 == bound_at:
                return "bound"
            return wrong if wrong is not None and len(calls) - 1 == wrong[1] else "void"

        return rule, calls

    def all_calls(self, pact, order):
        return [((), hand, tuple(sorted(order[:many]))) for many in range(len(order) + 1) for hand in pact.hands]

    def test_what_the_rule_is_called_with(self):
        for pact in close_pacts(698, 15) + small_pacts(698, 15):
            order = all_orders(pact)[-1]
            expected = self.all_calls(pact, order)
            rule, calls = self.by_calls()
            self.assertEqual(first_choice(pact, order, rule), ("paper", pact.hands[0]))
            self.assertEqual(calls, expected)
            for at, (_, hand, moment) in enumerate(expected):
                rule, calls = self.by_calls(bound_at=at)
                found = first_choice(pact, order, rule)
                self.assertEqual(calls, expected[:at + 1])
                many = len(moment)
                if many == 0:
                    self.assertEqual(found, ("unready", hand))
                else:
                    j = many - 1 if hand_of(pact, order[many - 1]) == hand else many
                    self.assertEqual(found, ("choice", j, hand))

    def test_no_answer(self):
        pact, order = base_pact(), ("m", "n", "o", "p")
        for wrong in (None, True, "", "Bound", ("void",), ["bound"], 1):
            calls = []

            def rule(history, hand, moment):
                calls.append(hand)
                return wrong if len(calls) == 4 else "void"

            self.assertEqual(raised(Refused, first_choice, pact, order, rule), "answer")
            self.assertEqual(len(calls), 4)
        rule, calls = self.by_calls()
        self.assertEqual(raised(InvalidRow, first_choice, pact, order[:3], rule), 3)
        self.assertEqual(calls, [])

    def test_the_hand_can_have_both_answers(self):
        rng = random.Random(699)
        for pact in close_pacts(699, 60):
            if not bears_lot(pact, ()):
                continue
            order = rng.choice(all_orders(pact)[:200])
            found = first_choice(pact, order, lambda history, hand, moment: plain_answer(pact, history, hand, moment))
            word, many, hand = found
            self.assertEqual(word, "choice")
            sent = tuple(sorted(order[:many]))
            reach = company_reach(pact, (hand,), sent)
            # All that this hand has sent is shown in both, and it sends no more than its own.
            self.assertEqual(plain_answer(pact, (), hand, reach), "bound")
            own = [tuple(sorted(order[:k])) for k in (many - 1, many) if k >= 0]
            own = [moment for moment in own if all(hand_of(pact, name) != hand for name in set(sent) - set(moment))]
            self.assertIn("void", [plain_answer(pact, (), hand, moment) for moment in own])

    def test_torn_pacts_and_names(self):
        found = first_choice(pact=base_pact("n"), order=("m", "n"), rule=lambda history, hand, moment: "void")
        self.assertEqual(found, ("paper", "a"))
        turned = Pact(("b", "a"), base_pact().notes, ("n", "m"), ("p",))
        found = first_choice(turned, ("m", "n", "o", "p"), lambda history, hand, moment: "bound" if moment else "void")
        self.assertEqual(found, ("choice", 1, "b"))


if __name__ == "__main__":
    unittest.main()
