"""[32] and [33]: bars, histories that are lost or safe, and what shows it."""

import itertools
import random
import unittest

from boundorvoid.climbs import climb_from
from boundorvoid.court import Just, Torn, court
from boundorvoid.errors import InvalidAsk, InvalidFamily, Refused
from boundorvoid.families import in_family
from boundorvoid.heights import level_of, next_level, top_of
from boundorvoid.pacts import Pact, key_note, lies_under, notes_of, ready_note, whole_paper
from boundorvoid.prospects import Lost, Safe, bound_bars, check_prospect, lost_runs, prospect
from boundorvoid.runs import filling_liars, filling_run, heard_liars, heard_run, need_run, run_heard, run_liars
from boundorvoid.wrongs import run_wrongs

from tests.helpers import Game, all_families, all_rows, base_pact, chain_pact, close_pacts, games, naive_moments
from tests.helpers import raised, random_history, small_pacts, subsets

ONE_LIES = (("a",), ("b",))


def heard_of(history):
    return tuple(told[:2] for told in history)


def tried(seed, many, **sizes):
    """Pacts with families and possible histories."""
    rng = random.Random(seed)
    for pact in small_pacts(seed, many, **sizes) + close_pacts(seed, many * 2, **sizes):
        families = all_families(pact.hands) if len(pact.hands) < 4 else [
            tuple((hand,) for hand in sorted(pact.hands)), (tuple(sorted(pact.hands)),), ((),),
            tuple(itertools.combinations(sorted(pact.hands), 2))]
        for _ in range(8):
            family, history = rng.choice(families), random_history(rng, pact)
            if in_family(family, heard_liars(pact, heard_of(history))):
                yield pact, family, history


def naive_bars(pact, history):
    liars = heard_liars(pact, heard_of(history))
    told = {hand: (moment, answer) for hand, moment, answer in history}
    seen = set()
    for hand, moment, answer in history:
        seen |= set(moment)
        if answer == "bound":
            break
    bars = []
    for hand in pact.hands:
        if hand not in liars and hand in told and told[hand][1] == "void":
            left = [note for note in notes_of(pact, hand) if note not in told[hand][0]]
            bars.append((hand, "parted", left[0] if left else None))
        elif hand not in liars and ready_note(pact, hand) not in seen:
            bars.append((hand, "unready", ready_note(pact, hand)))
    return tuple(bars)


def fails_from(pact, note, row):
    notes = climb_from(pact, note, row)
    return len(notes) < len(row) or not lies_under(pact, notes[-1], key_note(pact, row[-1]))


def naive_prospect(pact, family, history):
    """The number of the case that is due, and what [33] tells then."""
    bars = naive_bars(pact, history)
    if "bound" in [told[2] for told in history]:
        return 1, Lost(bars[0][0], None, ()) if bars else Safe(())
    filling = filling_liars(pact, heard_of(history))
    if not in_family(family, filling) or not bars:
        return 2, Safe(())
    asked = [hand for hand in pact.hands if hand in [told[0] for told in history]]
    for hand in asked:
        if hand not in filling:
            return 3, Lost(hand, None, ())
    fresh = sorted(set(pact.hands) - set(asked))
    for row in all_rows(fresh):
        if in_family(family, tuple(sorted(row[:-1] + filling))):
            for hand, _, note in bars:
                if fails_from(pact, note, row):
                    return 4, Lost(hand, note, row)
    table = []
    for lot in subsets(fresh):
        for hand in fresh:
            if hand not in lot and in_family(family, tuple(sorted(lot + filling))):
                table.append((tuple(sorted(lot + (hand,))), hand, naive_level(pact, bars, lot, hand)))
    return 5, Safe(tuple(table))


def naive_level(pact, bars, lot, hand):
    levels = []
    for head in itertools.permutations(lot):
        for _, _, note in bars:
            notes = climb_from(pact, note, head + (hand,))
            levels.append(level_of(pact, notes[-1]) if len(notes) > len(lot) else top_of(pact, hand))
    return max(levels)


class ClassesTest(unittest.TestCase):
    def test_equality_and_attributes(self):
        kept = [["x"]]
        self.assertIs(Safe(kept).table, kept)
        self.assertIs(Safe(table=kept).table, kept)
        lost = Lost(hand=kept, note=1, row=kept)
        self.assertTrue(lost.hand is kept and lost.note == 1 and lost.row is kept)
        self.assertTrue(Safe(()) == Safe(()) and Lost("a", None, ()) == Lost("a", None, ()))
        for other in (Lost("b", None, ()), Lost("a", "m", ()), Lost("a", None, ("b",)), ("a", None, ()), None,
                      Torn("a", ()), Safe(())):
            self.assertTrue(Lost("a", None, ()) != other)
        for other in (Safe([]), Just(()), (), None, ((),), Lost("a", None, ())):
            self.assertTrue(Safe(()) != other)
        for thing in (Safe(()), lost):
            self.assertRaises(TypeError, len, thing)
            self.assertRaises(TypeError, iter, thing)


class BarsTest(unittest.TestCase):
    def test_by_hand(self):
        pact = base_pact()
        self.assertEqual(bound_bars(pact, ()), (("a", "unready", "m"), ("b", "unready", "n")))
        self.assertEqual(bound_bars(pact=pact, history=(("b", ("m", "n", "o", "p"), "void"),)),
                         (("b", "parted", None),))
        self.assertEqual(bound_bars(pact, (("b", ("m", "n"), "void"),)), (("b", "parted", "p"),))
        self.assertEqual(bound_bars(pact, (("b", ("m", "n"), "bound"),)), ())
        # What is shown behind the first bound does not ready anybody, but it shows who lies.
        history = (("b", ("m",), "bound"), ("a", ("m", "n"), "bound"))
        self.assertEqual(bound_bars(pact, history), ())
        self.assertEqual(heard_liars(pact, heard_of(history)), ("b",))
        history = (("b", (), "bound"), ("a", ("m",), "bound"))
        self.assertEqual(bound_bars(pact, history), (("a", "unready", "m"), ("b", "unready", "n")))
        history = (("b", ("m",), "void"), ("a", ("m",), "bound"))
        self.assertEqual(bound_bars(pact, history), (("b", "parted", "n"),))

    def test_against_the_words(self):
        words = []
        for pact, _, history in tried(230, 60, hands=(2, 4), notes=(4, 8)):
            bars = naive_bars(pact, history)
            self.assertEqual(bound_bars(pact, history), bars)
            words += [word for _, word, _ in bars]
        self.assertGreater(min(map(words.count, ("parted", "unready"))), 100)

    def test_errors(self):
        pact = base_pact()
        lost = Lost("a", None, ())
        for call, more in ((bound_bars, ()), (lost_runs, (lost,))):
            for history, at in ((None, -1), ([], -1), ((("a", ()),), 0), ((("a", (), "void"), ("c", (), "void")), 1),
                                ((("a", ("n",), "void"),), 0), ((("a", (), "void"), ("a", (), "void")), 1)):
                self.assertEqual(raised(InvalidAsk, call, pact, history, *more), at)


class ProspectTest(unittest.TestCase):
    def test_no_asks(self):
        for pact in small_pacts(231, 40) + close_pacts(231, 60):
            for family in all_families(pact.hands)[::3]:
                found, told = court(pact, family), prospect(pact, family, ())
                if isinstance(found, Just):
                    self.assertEqual(told, Safe(found.table))
                else:
                    self.assertEqual(told.row, found.row)
                    failing = [hand for hand in pact.hands if fails_from(pact, ready_note(pact, hand), found.row)]
                    self.assertEqual((told.hand, told.note), (failing[0], ready_note(pact, failing[0])))

    def test_against_the_words(self):
        cases = []
        for pact, family, history in tried(232, 90, hands=(2, 4), notes=(4, 8)):
            case, expected = naive_prospect(pact, family, history)
            told = prospect(pact, family, history)
            self.assertEqual(told, expected)
            self.assertIs(check_prospect(pact, family, history, told), True)
            cases.append((case, told.__class__))
        for case in ((1, Lost), (1, Safe), (2, Safe), (3, Lost), (4, Lost), (5, Safe)):
            self.assertGreater(cases.count(case), 15, case)

    def test_errors_and_their_order(self):
        pact = base_pact()
        lies = (("a", (), "void"), ("b", ("m",), "bound"))
        for call, more in ((prospect, ()), (check_prospect, (None,))):
            self.assertEqual(raised(InvalidFamily, call, pact, (("c",),), None, *more), 0)
            self.assertEqual(raised(InvalidAsk, call, pact, ((),), lies + lies, *more), 2)
            self.assertEqual(raised(InvalidAsk, call, pact, ((),), None, *more), -1)
            self.assertEqual(raised(Refused, call, pact, ((),), lies, *more), "liars")
            self.assertEqual(raised(Refused, call, pact, (("b",),), lies, *more), "liars")
            call(pact, (("a",),), lies, *more)

    def test_lost_exactly_if_every_rule_is_wrong(self):
        losts = []
        for pact in small_pacts(233, 14, hands=(2, 2), notes=(3, 4), density=(0.5, 0.8)) + [base_pact("n")]:
            known, moments = games(pact), naive_moments(pact)
            for family in all_families(pact.hands):
                game = Game(known, family)
                for many in (0, 1, 2):
                    for hands in itertools.permutations(pact.hands, many):
                        for shown in itertools.product(moments, repeat=many):
                            losts += self.check_heard(pact, family, game, tuple(zip(hands, shown)))
        self.assertGreater(min(losts.count(True), losts.count(False)), 300)

    def test_three_hands(self):
        losts = []
        chain = chain_pact(tuple("cab"), 4)
        notes = (("m", "b", ()), ("n", "a", ("m",)), ("o", "c", ("n",)), ("p", "b", ("n",)))
        for pact in (chain, Pact(("a", "b", "c"), notes, ("n", "m", "o"), ("o", "p"))):
            known, moments = games(pact), naive_moments(pact)
            for family in all_families("abc")[::4]:
                game = Game(known, family)
                for hands in itertools.chain(*(itertools.permutations("abc", many) for many in range(4))):
                    for shown in itertools.product(moments, repeat=len(hands)):
                        if game.is_possible(tuple(zip(hands, shown))):
                            losts += self.check_heard(pact, family, game, tuple(zip(hands, shown)))
        self.assertGreater(min(losts.count(True), losts.count(False)), 1000)

    def check_heard(self, pact, family, game, heard):
        if not game.is_possible(heard):
            history = tuple((*ask, "void") for ask in heard)
            self.assertEqual(raised(Refused, prospect, pact, family, history), "liars")
            return []
        found = []
        for answers in itertools.product(("bound", "void"), repeat=len(heard)):
            history = tuple((*ask, answer) for ask, answer in zip(heard, answers))
            lost = isinstance(prospect(pact, family, history), Lost)
            self.assertEqual(lost, not game.is_safe(heard, answers))
            found.append(lost)
        return found

    def test_the_order_of_asks_without_a_bound(self):
        for pact, family, history in tried(234, 30, hands=(2, 4)):
            if "bound" not in [told[2] for told in history]:
                for order in itertools.permutations(history):
                    self.assertEqual(prospect(pact, family, order), prospect(pact, family, history))

    def test_six_hands(self):
        hands = tuple("abcdef")
        pact = chain_pact(hands, 40)
        told = prospect(pact, (hands,), (("a", (), "void"),))
        self.assertIsInstance(told, Safe)
        self.assertEqual(len(told.table), 5 * 16)
        pact = chain_pact(hands, 40, paper=("aq",))
        told = prospect(pact, (hands,), (("f", (), "void"), ("e", (), "void")))
        self.assertIsInstance(told, Lost)
        self.assertTrue(check_prospect(pact, (hands,), (("e", (), "void"), ("f", (), "void")), told))

    def test_all_hands_asked(self):
        pact = base_pact()
        history = (("a", ("m",), "void"), ("b", ("m", "n"), "void"))
        self.assertEqual(prospect(pact, (("a", "b"),), history), Safe(()))
        self.assertEqual(prospect(pact, (("a",),), history), Safe(()))


class CheckTest(unittest.TestCase):
    def test_other_values(self):
        pact = base_pact()
        history = (("a", ("m",), "void"),)
        right = prospect(pact, ONE_LIES, history)
        self.assertEqual(right.table, ((("b",), "b", 1),))
        for value in (None, True, (), right.table, Just(right.table), Torn("a", ("b",)), pact, [right], "Safe"):
            self.assertIs(check_prospect(pact, ONE_LIES, history, value), False)
        for table in (None, (), [], list(right.table), (list(right.table[0]),), ((["b"], "b", 1),), True, "x",
                      ((("b",), "b", True),), ((("b",), "b", 2),), ((("b",), "b", 0),), ((("b",), "b"),), pact,
                      ((("b",), "b", 1),) * 2, ((("a",), "b", 1),), ((("b",), "a", 1),), ((("b",), "b", "1"),)):
            self.assertIs(check_prospect(pact, ONE_LIES, history, Safe(table)), False, table)
        # Another level, up to the key note's, may stand if none ahead asks for more.
        longer = Pact(pact.hands, pact.notes + (("q", "b", ("p",)),), pact.ready, ("q",))
        self.assertIs(check_prospect(longer, ONE_LIES, history, Safe(((("b",), "b", 2),))), True)
        self.assertIs(check_prospect(longer, ONE_LIES, history, Safe(((("b",), "b", 3),))), False)
        self.assertIs(check_prospect(longer, ONE_LIES, history, Safe(((("b",), "b", -1),))), False)

    def test_losts_of_case_1_and_3(self):
        pact = base_pact()
        history = (("a", (), "bound"),)
        for hand in "ab":
            self.assertIs(check_prospect(pact, ONE_LIES, history, Lost(hand, None, ())), True)
        for wrong in (Lost("c", None, ()), Lost("a", "m", ()), Lost("a", None, ("b",)), Lost("a", None, []),
                      Lost(None, None, ()), Lost(["a"], None, ()), Lost("a", False, ()), Safe(()), Lost("a", (), ())):
            self.assertIs(check_prospect(pact, ONE_LIES, history, wrong), False)
        history = (("b", ("m", "n", "o", "p"), "void"),)
        self.assertIs(check_prospect(pact, ONE_LIES, history, Lost("b", None, ())), True)
        self.assertIs(check_prospect(pact, ONE_LIES, history, Lost("a", None, ())), False)
        self.assertIs(check_prospect(pact, ONE_LIES, history, Safe(())), False)
        history = (("b", ("m", "n"), "bound"),)
        self.assertIs(check_prospect(pact, ONE_LIES, history, Safe(())), True)
        for wrong in (Safe([]), Safe(None), Safe(((("a",), "a", 1),)), Lost("a", None, ())):
            self.assertIs(check_prospect(pact, ONE_LIES, history, wrong), False)

    def test_all_losts(self):
        cases = []
        for pact, family, history in tried(235, 40, hands=(2, 3), notes=(4, 7)):
            case, due = naive_prospect(pact, family, history)
            bars, filling = naive_bars(pact, history), filling_liars(pact, heard_of(history))
            asked = [told[0] for told in history]
            rows = [()] + all_rows(pact.hands)
            for hand, note, row in itertools.product(pact.hands, (None,) + pact.names, rows):
                expected = False
                if isinstance(due, Lost) and case < 4:
                    among = [bar[0] for bar in bars] if case == 1 else [one for one in asked if one not in filling]
                    expected = note is None and row == () and hand in among
                elif isinstance(due, Lost) and row and note and not set(row) & set(asked):
                    wanted = in_family(family, tuple(sorted(row[:-1] + filling)))
                    expected = (hand, note) in [bar[::2] for bar in bars] and wanted and fails_from(pact, note, row)
                self.assertIs(check_prospect(pact, family, history, Lost(hand, note, row)), expected)
                cases.append((case, expected))
        for case in (1, 3, 4):
            self.assertGreater(cases.count((case, True)), 20, case)

    def test_rows_of_other_forms(self):
        pact = Pact(("a", "b"), base_pact().notes, ("m", "n"), ("n", "o"))
        told = prospect(pact, ONE_LIES, ())
        self.assertEqual((told.hand, told.note, told.row), ("b", "n", ("a", "b")))
        for row in (["a", "b"], ("a", "b", "a"), None, "ab", 1, ("a", None), ("b", "c"), (), pact, True, (["a"], "b")):
            self.assertIs(check_prospect(pact, ONE_LIES, (), Lost("b", "n", row)), False)
        for hand, note in (("a", "n"), ("b", "m"), ("b", None), (["b"], "n"), ("b", ["n"]), (pact, "n")):
            self.assertIs(check_prospect(pact, ONE_LIES, (), Lost(hand, note, ("a", "b"))), False)

    def test_tables_changed_at_one_place(self):
        passed = held = 0
        for pact, family, history in tried(236, 60):
            told = prospect(pact, family, history)
            if isinstance(told, Safe) and told.table:
                for at, (lot, hand, level) in enumerate(told.table):
                    for change in (-1, 1, 2):
                        table = told.table[:at] + ((lot, hand, level + change),) + told.table[at + 1:]
                        expected = slow_check(pact, history, table)
                        self.assertIs(check_prospect(pact, family, history, Safe(table)), expected)
                        passed, held = passed + expected, held + (not expected)
        self.assertGreater(min(passed, held), 30)

    def test_no_table_passes_for_a_lost_history(self):
        many = 0
        for pact, family, history in tried(237, 30, hands=(2, 2), notes=(3, 5)):
            case, due = naive_prospect(pact, family, history)
            fresh = sorted(set(pact.hands) - {told[0] for told in history})
            filling = filling_liars(pact, heard_of(history))
            places = [(tuple(sorted(lot + (hand,))), hand) for lot in subsets(fresh) for hand in fresh
                      if hand not in lot and in_family(family, tuple(sorted(lot + filling)))]
            tables = [tuple((lot, hand, level) for (lot, hand), level in zip(places, levels)) for levels in
                      itertools.product(*(range(-1, top_of(pact, hand) + 1) for _, hand in places))]
            passed = any(check_prospect(pact, family, history, Safe(table)) for table in tables + [()])
            self.assertEqual(passed, isinstance(due, Safe))
            many += case == 4
        self.assertGreater(many, 5)


def slow_check(pact, history, table):
    told = {(lot, hand): level for lot, hand, level in table}
    bars = [note for _, _, note in naive_bars(pact, history)]
    for (lot, hand), level in told.items():
        others = tuple(one for one in lot if one != hand)
        if level > level_of(pact, key_note(pact, hand)) or level < 0:
            return False
        notes = [notes_of(pact, one)[told[(others, one)]] for one in others] if others else bars
        if any(level < next_level(pact, hand, note) for note in notes):
            return False
    return True


class LostRunsTest(unittest.TestCase):
    def naive_runs(self, pact, history, lost):
        asks = heard_of(history)
        if not lost.row:
            bound = "bound" in [told[2] for told in history]
            return (heard_run(pact, asks) if bound else filling_run(pact, asks),)
        part = [lost.row[:many] for many in range(1, len(lost.row) + 1)
                if fails_from(pact, lost.note, lost.row[:many])][0]
        notes = (lost.note,) + climb_from(pact, lost.note, part)
        seen = {note for _, moment in asks for note in moment}
        runs = []
        for hand, note in zip(part, notes):
            asks += ((hand, tuple(sorted(seen | {name for name in whole_paper(pact)
                                                 if not lies_under(pact, note, name)}))),)
            runs.append(heard_run(pact, asks))
        return tuple(runs) + (filling_run(pact, asks),)

    def test_every_rule_is_wrong_in_one(self):
        rng, sizes = random.Random(238), []
        for pact, family, history in tried(238, 90, hands=(2, 4), notes=(4, 8)):
            lost = prospect(pact, family, history)
            if isinstance(lost, Safe):
                continue
            runs = lost_runs(pact, history, lost)
            self.assertEqual(runs, self.naive_runs(pact, history, lost))
            sizes.append(len(runs))
            for run in runs:
                self.assertIs(need_run(pact, run), run)
                self.assertTrue(in_family(family, run_liars(pact, run)))
                self.assertEqual(run_heard(pact, run)[:len(history)], heard_of(history))
            most = max(len(run_heard(pact, run)) for run in runs) - len(history)
            told = tuple(answer for _, _, answer in history)
            for more in itertools.product(("bound", "void"), repeat=most):
                self.assertTrue(any(run_wrongs(pact, run, (told + more)[:len(run_heard(pact, run))]) for run in runs))
        self.assertGreater(min(map(sizes.count, (1, 2, 3))), 10)

    def test_by_hand(self):
        pact = Pact(("a", "b"), base_pact().notes, ("m", "n"), ("n", "o"))
        head = (("send", "m"), ("ask", "a", ("m",)))
        runs = lost_runs(pact=pact, history=(), lost=Lost("b", "n", ("a", "b")))
        end = head + (("send", "n"), ("ask", "b", ("m", "n")))
        self.assertEqual(runs, (head, end, end + (("send", "o"),)))
        self.assertEqual(lost_runs(pact, (("a", ("m",), "bound"),), Lost("b", None, ())), (head,))
        full = (("a", ("m", "n", "o"), "void"),)
        self.assertEqual(lost_runs(pact, full, Lost("a", None, ())),
                         ((("send", "m"), ("send", "n"), ("send", "o"), ("ask", "a", ("m", "n", "o"))),))


if __name__ == "__main__":
    unittest.main()
