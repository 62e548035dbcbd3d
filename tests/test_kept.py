"""[41] to [44]: whom a notary can keep, cut pacts, and who must not lie for that."""

import itertools
import random
import unittest

from boundorvoid.borne import greatest_family, least_meets
from boundorvoid.climbs import row_holds
from boundorvoid.court import Just, Torn, court
from boundorvoid.dooms import row_trap
from boundorvoid.errors import InvalidAsk, InvalidFamily, InvalidMoment, InvalidSize, NoName
from boundorvoid.families import all_lots, in_family, sized_family
from boundorvoid.kept import cut_family, cut_pact, keeping_answer, keeping_pairs, kept_family, kept_lots
from boundorvoid.kept import least_unkept, share_pact, spared_lots, torn_in
from boundorvoid.pacts import Pact, lies_under, notes_of, ready_note, whole_paper
from boundorvoid.rules import plain_answer
from boundorvoid.runs import run_heard, run_liars
from boundorvoid.wrongs import Facts, replay, run_wrongs, wrongs_by

from tests.helpers import Game, all_families, all_rows, all_runs, base_pact, chain_pact, close_pacts, naive_moments
from tests.helpers import note_names, raised, random_history, random_run, small_pacts, subsets

ONE_LIES = (("a",), ("b",))


def tried(seed, many, **sizes):
    rng = random.Random(seed)
    for pact in small_pacts(seed, many, **sizes) + close_pacts(seed, many * 2, **sizes):
        for family in rng.sample(all_families(pact.hands), 3):
            yield pact, family


def sized(lots):
    return tuple(sorted(lots, key=lambda lot: (len(lot), lot)))


def naive_torn(pact, family, lot):
    for row in all_rows(lot):
        if in_family(family, tuple(sorted(row[:-1]))):
            for hand in lot:
                if not row_holds(pact, hand, row):
                    return Torn(hand, row)
    return None


def naive_kept(pact, family):
    return [lot for lot in subsets(sorted(pact.hands)) if naive_torn(pact, family, lot) is None]


class TornInTest(unittest.TestCase):
    def test_against_the_words(self):
        found = []
        for pact, family in tried(270, 30):
            for lot in subsets(sorted(pact.hands)):
                expected = naive_torn(pact, family, lot)
                self.assertEqual(torn_in(pact, family, lot), expected)
                found.append(expected is None)
            self.assertEqual(torn_in(pact, family, tuple(sorted(pact.hands))) is None,
                             isinstance(court(pact, family), Just))
            for hand in pact.hands:
                self.assertEqual(torn_in(pact, family, (hand,)) is None, ready_note(pact, hand) in whole_paper(pact))
            self.assertIsNone(torn_in(pact, family, ()))
        self.assertGreater(min(found.count(True), found.count(False)), 50)

    def test_errors(self):
        pact = base_pact()
        self.assertEqual(raised(InvalidFamily, torn_in, pact, None, ("c",)), -1)
        self.assertEqual(raised(NoName, torn_in, pact, ((),), ("a", "c", "d")), "c")
        self.assertIsNone(torn_in(pact=pact, family=ONE_LIES, lot=("a", "b")))

    def test_kept_exactly_if_some_rule_wrongs_none_of_it(self):
        found = []
        pacts = small_pacts(271, 12, hands=(2, 2), notes=(3, 4), density=(0.5, 0.8))
        notes = (("m", "b", ()), ("n", "a", ("m",)), ("o", "c", ("n",)))
        pacts += [base_pact("n"), Pact(("a", "b", "c"), notes, ("n", "m", "o"), ("o",)), chain_pact(tuple("cab"), 4)]
        for pact in pacts:
            told = wronged_in(pact)
            for lot in subsets(sorted(pact.hands)):
                games = games_for(told, lot)
                for family in all_families(pact.hands)[::1 if len(pact.hands) < 3 else 3]:
                    kept = torn_in(pact, family, lot) is None
                    self.assertEqual(kept, Game(games, family).is_safe((), ()))
                    found.append(kept)
        self.assertGreater(min(found.count(True), found.count(False)), 50)

    def test_else_every_rule_wrongs_somebody_of_it(self):
        many = 0
        for pact, family in tried(272, 40, hands=(3, 3)):
            for lot in subsets(sorted(pact.hands)):
                torn = torn_in(pact, family, lot)
                if torn is None:
                    continue
                runs = row_trap(pact, torn.hand, torn.row)
                self.assertTrue(all(in_family(family, run_liars(pact, run)) for run in runs))
                for answers in itertools.product(("bound", "void"), repeat=len(torn.row)):
                    wrongs = [wrong for run in runs for wrong in run_wrongs(
                        pact, run, answers[:len(run_heard(pact, run))])]
                    self.assertTrue([wrong for wrong in wrongs if wrong[0] in lot])
                    many += len(torn.row) > 1
        self.assertGreater(many, 50)


def wronged_in(pact):
    """All runs with their liars and heards, and for each row of answers the hands that it wrongs."""
    found = []
    for run in all_runs(pact):
        facts = Facts(pact, run)
        heard = run_heard(pact, run)
        rows = {row: {wrong[0] for wrong in wrongs_by(facts, row)}
                for row in itertools.product(("bound", "void"), repeat=len(heard))}
        found.append((run_liars(pact, run), heard, rows))
    return found


def games_for(told, lot):
    """The same runs, with the answers that wrong somebody of a lot."""
    return [(liars, heard, [row for row in rows if rows[row] & set(lot)]) for liars, heard, rows in told]


class KeepingRuleTest(unittest.TestCase):
    def naive_answer(self, pact, lot, history, hand, moment):
        told = {other: answer for other, _, answer in history}
        if hand in told:
            return told[hand]
        if "bound" in told.values():
            return "bound"
        if hand not in lot:
            return "void"
        own = {other: shown for other, shown, _ in history if other in lot}
        seen = {note for shown in own.values() for note in shown} | set(moment)
        for other in lot:
            if ready_note(pact, other) not in seen:
                return "void"
            if other in own and not seen & set(notes_of(pact, other)) - set(own[other]):
                return "void"
        return "bound"

    def test_against_the_words(self):
        rng, found = random.Random(273), []
        for pact in small_pacts(273, 80, hands=(2, 4), notes=(4, 8)) + close_pacts(273, 80):
            moments = naive_moments(pact)
            for _ in range(8):
                lot = rng.choice(subsets(sorted(pact.hands)))
                history, hand = random_history(rng, pact), rng.choice(pact.hands)
                moment = rng.choice(moments + moments[-3:] * 3)
                expected = self.naive_answer(pact, lot, history, hand, moment)
                self.assertEqual(keeping_answer(pact, lot, history, hand, moment), expected)
                if lot == tuple(sorted(pact.hands)):
                    self.assertEqual(plain_answer(pact, history, hand, moment), expected)
                found.append(expected)
        self.assertGreater(min(found.count("bound"), found.count("void")), 100)

    def test_it_keeps_the_lot(self):
        rng, many = random.Random(274), 0
        for pact, family in tried(274, 40, hands=(2, 4), notes=(4, 8)):
            kept = [lot for lot in naive_kept(pact, family) if lot]
            for _ in range(12):
                run = random_run(rng, pact, most=16)
                if kept and in_family(family, run_liars(pact, run)):
                    lot = rng.choice(kept)
                    history = replay(pact, run, lambda *told: keeping_answer(pact, lot, *told))
                    wrongs = run_wrongs(pact, run, [answer for _, _, answer in history])
                    self.assertFalse([wrong for wrong in wrongs if wrong[0] in lot])
                    many += 1
        self.assertGreater(many, 200)

    def test_errors_and_their_order(self):
        pact = base_pact()
        self.assertEqual(raised(NoName, keeping_answer, pact, ("a", "c"), None, "d", None), "c")
        self.assertEqual(raised(InvalidAsk, keeping_answer, pact, ("a",), None, "d", None), -1)
        self.assertEqual(raised(NoName, keeping_answer, pact, ("a",), (), "d", None), "d")
        self.assertEqual(raised(InvalidMoment, keeping_answer, pact, ("a",), (), "b", ("n",)), 0)
        self.assertEqual(keeping_answer(pact=pact, lot=(), history=(), hand="a", moment=("m", "n")), "void")


class CutTest(unittest.TestCase):
    def test_against_the_words(self):
        for pact in small_pacts(275, 40, hands=(2, 4), notes=(4, 9)) + close_pacts(275, 40, hands=(2, 4)):
            for lot in subsets(sorted(pact.hands)):
                if len(lot) < 2:
                    self.assertEqual(raised(InvalidSize, cut_pact, pact, lot), "lot")
                    continue
                cut = cut_pact(pact, lot)
                self.assertEqual(cut.hands, tuple(hand for hand in pact.hands if hand in lot))
                left = [note for note in pact.notes if note[1] in lot]
                names = [name for name, _, _ in left]
                self.assertEqual(cut.notes, tuple((name, hand, tuple(
                    sorted(other for other in names if other != name and lies_under(pact, other, name))))
                    for name, hand, _ in left))
                self.assertEqual(cut.ready, tuple(ready_note(pact, hand) for hand in cut.hands))
                self.assertEqual(cut.paper, tuple(name for name in whole_paper(pact) if name in names))
                for one, other in itertools.product(names, repeat=2):
                    self.assertEqual(lies_under(cut, one, other), lies_under(pact, one, other))

    def test_errors(self):
        pact = base_pact()
        self.assertEqual(raised(NoName, cut_pact, pact, ("c",)), "c")
        self.assertEqual(raised(NoName, cut_pact, pact, ("a", "m")), "m")
        self.assertEqual(cut_pact(pact=pact, lot=("a", "b")).hands, ("a", "b"))

    def test_families(self):
        self.assertEqual(cut_family(("a", "c"), (("a", "b"), ("b", "c"))), (("a",), ("c",)))
        self.assertEqual(cut_family((), (("a",), ("b",))), ((),))
        self.assertEqual(cut_family(lot=("x",), family=(("a",), ("b",))), ((),))
        for family in all_families("abc"):
            for lot in subsets("abcd"):
                found = cut_family(lot, family)
                common = {tuple(hand for hand in one if hand in lot) for one in all_lots(family)}
                self.assertEqual(all_lots(found), sized(common))
                self.assertEqual(found, tuple(sorted(one for one in common if not any(
                    set(one) < set(other) for other in common))))

    def test_kept_exactly_if_the_cut_is_just(self):
        for pact, family in tried(276, 30, hands=(3, 3), notes=(4, 9)):
            for lot in subsets(sorted(pact.hands))[4:]:
                just = isinstance(court(cut_pact(pact, lot), cut_family(lot, family)), Just)
                self.assertEqual(torn_in(pact, family, lot) is None, just)

    def test_small_parts_tell(self):
        for pact in small_pacts(277, 40, hands=(4, 4), notes=(6, 9), density=(0.5, 0.8)) + close_pacts(
                277, 40, hands=(4, 4), notes=(9, 12)):
            for many in range(3):
                family = sized_family(tuple(sorted(pact.hands)), many)
                kept = naive_kept(pact, family)
                for lot in subsets(sorted(pact.hands)):
                    self.assertEqual(lot in kept, all(part in kept for part in subsets(lot) if len(part) <= many + 2))


class KeptLotsTest(unittest.TestCase):
    def test_against_the_words(self):
        unions = 0
        for pact, family in tried(278, 50, hands=(2, 4), notes=(4, 9)):
            if len(pact.hands) == 4 and len(family) > 3:
                continue
            kept = naive_kept(pact, family)
            hands = sorted(pact.hands)
            wide = [lot for lot in kept if not any(set(lot) < set(other) for other in kept)]
            self.assertEqual(kept_lots(pact, family), sized(wide))
            unkept = [lot for lot in subsets(hands) if lot not in kept]
            least = [lot for lot in unkept if not any(set(other) < set(lot) for other in unkept)]
            self.assertEqual(least_unkept(pact, family), sized(least))
            spared = sized(tuple(hand for hand in hands if hand not in lot) for lot in wide)
            self.assertEqual(spared_lots(pact, family), spared)
            self.assertEqual(spared, least_meets(least))
            for lot in kept:
                self.assertTrue(all(part in kept for part in subsets(lot)))
            unions += any(tuple(sorted(set(one) | set(other))) not in kept for one in wide for other in wide)
            for lot in least:
                rows = [row for row in itertools.permutations(lot) if in_family(family, tuple(sorted(row[:-1])))]
                self.assertTrue(any(not row_holds(pact, hand, row) for hand in lot for row in rows) or any(
                    not row_holds(pact, hand, row) and set(row) | {hand} == set(lot)
                    for hand in lot for row in all_rows(lot) if in_family(family, tuple(sorted(row[:-1])))))
        self.assertGreater(unions, 20)

    def test_errors(self):
        for call in (kept_lots, least_unkept, spared_lots):
            self.assertEqual(raised(InvalidFamily, call, base_pact(), (("a",), ("c",))), 1)
            call(pact=base_pact(), family=ONE_LIES)

    def test_none_one_and_all(self):
        pact = base_pact()
        self.assertEqual(kept_lots(pact, ONE_LIES), (("a", "b"),))
        self.assertEqual((least_unkept(pact, ONE_LIES), spared_lots(pact, ONE_LIES)), ((), ((),)))
        notes = (("m", "a", ()), ("n", "b", ()), ("o", "a", ()), ("p", "b", ()))
        pact = Pact(("a", "b"), notes, ("o", "p"), ("m", "n"))
        self.assertEqual(kept_lots(pact, ONE_LIES), ((),))
        self.assertEqual(least_unkept(pact, ONE_LIES), (("a",), ("b",)))
        self.assertEqual(spared_lots(pact, ONE_LIES), (("a", "b"),))
        pact = Pact(("a", "b"), notes, ("o", "n"), ("m", "n"))
        self.assertEqual(kept_lots(pact, ONE_LIES), (("b",),))

    def test_six_hands(self):
        hands = tuple("abcdef")
        pact = chain_pact(hands, 40)
        self.assertEqual(kept_lots(pact, (hands,)), (hands,))
        pact = chain_pact(hands, 22)
        found = kept_lots(pact, (hands,))
        self.assertEqual(found, sized(found))
        self.assertTrue(found and hands not in found)
        self.assertEqual(spared_lots(pact, (hands,)), least_meets(least_unkept(pact, (hands,))))


class FamilyTest(unittest.TestCase):
    def test_against_the_words(self):
        kinds = []
        for pact in small_pacts(279, 40) + close_pacts(279, 60):
            for lot in subsets(sorted(pact.hands)):
                found = kept_family(pact, lot)
                kept = [one for one in all_families(pact.hands) if naive_torn(pact, one, lot) is None]
                kinds.append(found is None)
                self.assertEqual(found is None, not kept)
                if found is not None:
                    self.assertIn(found, kept)
                    self.assertTrue(all(in_family(found, one) for family in kept for one in all_lots(family)))
                self.check_cut(pact, lot, found)
        self.assertGreater(min(kinds.count(True), kinds.count(False)), 30)

    def check_cut(self, pact, lot, found):
        if len(lot) < 2:
            self.assertIn(found, (None, (tuple(sorted(pact.hands)),)))
            return
        borne = greatest_family(cut_pact(pact, lot))
        self.assertEqual(found is None, borne is None)
        if found is not None:
            for one in subsets(sorted(pact.hands)):
                self.assertEqual(in_family(found, one), in_family(borne, tuple(hand for hand in one if hand in lot)))

    def test_edges(self):
        pact = base_pact()
        self.assertEqual(kept_family(pact=pact, lot=()), (("a", "b"),))
        self.assertEqual(kept_family(pact, ("a",)), (("a", "b"),))
        self.assertEqual(raised(NoName, kept_family, pact, ("a", "x")), "x")

    def test_pairs(self):
        sizes = []
        for pact in small_pacts(280, 30) + close_pacts(280, 50):
            hands = sorted(pact.hands)
            holds = {(liars, lot): naive_torn(pact, (liars,), lot) is None
                     for liars in subsets(hands) for lot in subsets(hands)}
            expected = []
            for (liars, lot), kept in holds.items():
                wider = [(tuple(sorted(liars + (hand,))), lot) for hand in hands if hand not in liars]
                wider += [(liars, tuple(sorted(lot + (hand,)))) for hand in hands if hand not in lot]
                if kept and not any(holds[pair] for pair in wider):
                    expected.append((liars, lot))
            found = keeping_pairs(pact)
            self.assertEqual(found, tuple(sorted(expected)))
            sizes.append(len(found))
            for family in all_families(hands)[::3]:
                for lot in subsets(hands):
                    told = all(any(set(one) <= set(liars) and set(lot) <= set(kept) for liars, kept in found)
                               for one in all_lots(family))
                    self.assertEqual(naive_torn(pact, family, lot) is None, told)
        self.assertGreater(len(set(sizes)), 2)
        self.assertEqual(keeping_pairs(chain_pact(tuple("abcdef"), 40)), ((tuple("abcdef"),) * 2,))
        self.assertTrue(keeping_pairs(chain_pact(tuple("abcdef"), 22)))


class ShareTest(unittest.TestCase):
    def test_any_pairs_come(self):
        rng = random.Random(281)
        for hands in (("b", "a"), ("x", "c", "m"), ["d", "b", "a", "c"], tuple("fabdce")):
            every = tuple(itertools.combinations(sorted(hands), 2))
            for _ in range(10):
                pairs = tuple(pair for pair in every if rng.random() < 0.5)
                pact = share_pact(hands, pairs)
                self.assertEqual(pact.hands, tuple(hands))
                for lot in subsets(sorted(hands)):
                    shared = all(pair in pairs for pair in itertools.combinations(lot, 2))
                    self.assertEqual(naive_torn(pact, ((),), lot) is None, shared)
        self.assertEqual(kept_lots(share_pact(hands=("a", "b"), pairs=()), ((),)), (("a",), ("b",)))

    def test_names_of_hands(self):
        pact = share_pact(["a", "abcdefgh", "m"], (("a", "m"),))
        self.assertEqual(kept_lots(pact, ((),)), (("abcdefgh",), ("a", "m")))
        self.assertEqual(len(note_names(2)), 2)


if __name__ == "__main__":
    unittest.main()
