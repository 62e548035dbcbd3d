"""[25], [26] and [27]: the court, its tables and rows, and what shows them."""

import itertools
import random
import unittest

from boundorvoid.climbs import climb, row_holds, row_moments, row_starts
from boundorvoid.court import Just, Torn, check_court, court, court_rows, court_table, highest_level, least_paper
from boundorvoid.court import safe_notes
from boundorvoid.errors import InvalidFamily, NoName
from boundorvoid.families import all_lots, family_join, in_family, sized_family
from boundorvoid.heights import closure_of, level_of, next_level, top_of
from boundorvoid.moments import need_moment
from boundorvoid.pacts import Pact, key_note, lies_under, notes_of, ready_note, whole_paper
from boundorvoid.runs import run_heard, run_liars
from boundorvoid.texts import read_pact
from boundorvoid.wrongs import replay, run_wrongs

from tests.helpers import BASE, all_families, all_rows, all_runs, base_pact, chain_pact, close_pacts, loose_pact
from tests.helpers import note_names, raised, random_run, small_pacts

ONE_LIES = (("a",), ("b",))


def torn_pact():
    return read_pact("\n".join(BASE[:4] + ["ready m n", "paper n o"]))


def naive_rows(pact, family):
    return tuple(row for row in all_rows(pact.hands) if tuple(sorted(row[:-1])) in all_lots(family))


def naive_level(pact, lot, hand):
    """The highest level, climb by climb."""
    levels = []
    for head in itertools.permutations([other for other in lot if other != hand]):
        for start in pact.hands:
            notes = climb(pact, start, head + (hand,))
            levels.append(level_of(pact, notes[-1]) if len(notes) == len(lot) else top_of(pact, hand))
    return max(levels)


def naive_table(pact, family):
    table = []
    for lot in all_lots(family):
        for hand in sorted(pact.hands):
            if hand not in lot:
                joined = tuple(sorted(lot + (hand,)))
                table.append((joined, hand, naive_level(pact, joined, hand)))
    return tuple(table)


def naive_court(pact, family):
    for row in naive_rows(pact, family):
        for hand in sorted(pact.hands):
            if not row_holds(pact, hand, row):
                return Torn(hand, row)
    return Just(naive_table(pact, family))


def tried(seed, many, hands=(2, 3), notes=(3, 8)):
    pacts = small_pacts(seed, many // 2, hands=hands, notes=notes, density=(0.3, 0.6, 0.9))
    for pact in pacts + close_pacts(seed, many - many // 2, hands=hands, notes=notes):
        for family in all_families(sorted(pact.hands)):
            yield pact, family


def plain_rule(pact):
    """The rule of [26]: bound, once all ready notes are seen and of each hand told void more than it showed."""
    def rule(history, hand, moment):
        if any(answer == "bound" for _, _, answer in history):
            return "bound"
        seen = set(moment).union(*(shown for _, shown, _ in history))
        if any(ready_note(pact, one) not in seen for one in pact.hands):
            return "void"
        for one, shown, _ in history:
            if not seen & set(notes_of(pact, one)) - set(shown):
                return "void"
        return "bound"
    return rule


class RowsTest(unittest.TestCase):
    def test_rows(self):
        pact = base_pact()
        self.assertEqual(court_rows(pact=pact, family=((),)), (("a",), ("b",)))
        self.assertEqual(court_rows(pact, (("b",),)), (("a",), ("b",), ("b", "a")))
        self.assertEqual(court_rows(pact, (("a", "b"),)), (("a",), ("b",), ("a", "b"), ("b", "a")))
        for pact, family in tried(91, 6, hands=(2, 4)):
            self.assertEqual(court_rows(pact, family), naive_rows(pact, family))
            for row in all_rows(pact.hands):
                self.assertEqual(row in court_rows(pact, family), in_family(family, row[:-1]))

    def test_six_hands(self):
        pact = chain_pact(tuple("abcdef"), 40)
        rows = court_rows(pact, (tuple("abcdef"),))
        self.assertEqual(len(rows), 6 + 30 + 120 + 360 + 720 + 720)
        self.assertEqual(rows, tuple(all_rows("abcdef")))

    def test_wrong_families(self):
        for call in (court_rows, court_table, court, safe_notes, least_paper):
            self.assertEqual(raised(InvalidFamily, call, base_pact(), ()), -1)
            self.assertEqual(raised(InvalidFamily, call, base_pact(), (("a",), ("c",))), 1)
            self.assertEqual(raised(InvalidFamily, call, base_pact(), [()]), -1)
        self.assertEqual(raised(InvalidFamily, check_court, base_pact(), (("a", "b"), ("b",)), None), 1)


class TableTest(unittest.TestCase):
    def test_highest_level(self):
        pact = base_pact()
        self.assertEqual(highest_level(pact=pact, lot=("a",), hand="a"), 1)
        self.assertEqual(highest_level(pact, ("a", "b"), "b"), 1)
        self.assertEqual(highest_level(torn_pact(), ("a", "b"), "b"), 1)
        self.assertEqual(top_of(torn_pact(), "b"), 1)

    def test_no_names(self):
        pact = base_pact()
        self.assertEqual(raised(NoName, highest_level, pact, ("a", "c"), "d"), "c")
        self.assertEqual(raised(NoName, highest_level, pact, ("a", "m"), "a"), "m")
        self.assertEqual(raised(NoName, highest_level, pact, ("a",), "b"), "b")
        self.assertEqual(raised(NoName, highest_level, pact, ("a",), "x"), "x")
        self.assertEqual(raised(NoName, highest_level, pact, (), "a"), "a")

    def test_against_the_words(self):
        tops = 0
        for pact, family in tried(92, 12, hands=(2, 4), notes=(3, 9)):
            table = court_table(pact=pact, family=family)
            self.assertEqual(table, naive_table(pact, family))
            for lot, hand, level in table:
                self.assertEqual(highest_level(pact, lot, hand), level)
                tops += level == top_of(pact, hand)
        self.assertGreater(tops, 50)

    def test_how_levels_follow(self):
        for pact, family in tried(93, 12):
            levels = {(lot, hand): level for lot, hand, level in court_table(pact, family)}
            for (lot, hand), level in levels.items():
                others = tuple(one for one in lot if one != hand)
                if not others:
                    self.assertEqual(level, max(next_level(pact, hand, note) for note in pact.ready))
                    continue
                found = []
                for one in others:
                    ahead = levels[(others, one)]
                    row = notes_of(pact, one)
                    found.append(top_of(pact, hand) if ahead == len(row) else next_level(pact, hand, row[ahead]))
                self.assertEqual(level, max(found))


class CourtTest(unittest.TestCase):
    def test_the_examples(self):
        torn = court(torn_pact(), ONE_LIES)
        self.assertEqual((torn.hand, torn.row), ("b", ("a", "b")))
        pact = read_pact("\n".join(BASE + ["ready m n", "paper o p"]))
        found = court(pact=pact, family=ONE_LIES)
        table = ((("a",), "a", 1), (("b",), "b", 0), (("a", "b"), "b", 1), (("a", "b"), "a", 1))
        self.assertEqual(found.table, table)
        self.assertEqual(safe_notes(pact, ONE_LIES), ("m", "n"))
        self.assertEqual(least_paper(pact, ((),)), ("m", "n", "o"))
        self.assertEqual(safe_notes(pact=pact, family=((),)), ("m", "n", "o"))
        self.assertEqual(least_paper(pact=pact, family=ONE_LIES), ("m", "n", "o", "p"))

    def test_equality_and_attributes(self):
        kept = [["x"]]
        self.assertIs(Just(kept).table, kept)
        self.assertIs(Just(table=kept).table, kept)
        self.assertIs(Torn(kept, 1).hand, kept)
        self.assertIs(Torn(hand=1, row=kept).row, kept)
        self.assertTrue(Just(()) == Just(()) and Torn("a", ("b",)) == Torn("a", ("b",)))
        self.assertTrue(Just(()) != Just([]) and Torn("a", ("b",)) != Torn("b", ("b",)))
        self.assertTrue(Torn("a", ("b",)) != Torn("a", ("a",)))
        for other in (None, (), 1, Torn("a", ()), ((),)):
            self.assertFalse(Just(()) == other)
        for other in (None, ("a", ()), Just(())):
            self.assertFalse(Torn("a", ()) == other)
        for thing in (Just(()), Torn("a", ())):
            self.assertRaises(TypeError, len, thing)
            self.assertRaises(TypeError, iter, thing)

    def test_against_the_words(self):
        justs = torns = 0
        for pact, family in tried(94, 40, hands=(2, 4), notes=(3, 9)):
            if len(family) > 3 and len(pact.hands) == 4:
                continue
            found = court(pact, family)
            self.assertEqual(found, naive_court(pact, family))
            self.assertIs(check_court(pact, family, found), True)
            justs, torns = justs + isinstance(found, Just), torns + isinstance(found, Torn)
        self.assertGreater(min(justs, torns), 40)

    def test_some_notary_wrongs_nobody_exactly_if_just(self):
        justs = torns = 0
        for pact in small_pacts(95, 60, hands=(2, 2), notes=(3, 5), density=(0.5, 0.8)):
            tried_all = all_runs(pact)
            for family in all_families(sorted(pact.hands)):
                just = isinstance(court(pact, family), Just)
                runs = [run for run in tried_all if in_family(family, run_liars(pact, run))]
                if just:
                    rule = plain_rule(pact)
                    for run in runs:
                        answers = [answer for _, _, answer in replay(pact, run, rule)]
                        self.assertEqual(run_wrongs(pact, run, answers), ())
                else:
                    self.assertFalse(notary_wins(pact, runs))
                justs, torns = justs + just, torns + (not just)
        self.assertGreater(min(justs, torns), 15)

    def test_the_plain_rule_with_three_hands(self):
        rng, many = random.Random(96), 0
        for pact, family in tried(96, 25, hands=(3, 3), notes=(6, 9)):
            if isinstance(court(pact, family), Just):
                for _ in range(20):
                    run = random_run(rng, pact, most=12)
                    if in_family(family, run_liars(pact, run)):
                        answers = [answer for _, _, answer in replay(pact, run, plain_rule(pact))]
                        self.assertEqual(run_wrongs(pact, run, answers), ())
                        many += 1
        self.assertGreater(many, 100)

    def test_the_hands_of_a_torn_come_in_turn(self):
        many = 0
        for pact, family in tried(97, 16, hands=(2, 4)):
            found = court(pact, family)
            if isinstance(found, Torn):
                runs = runs_of_torn(pact, found)
                self.assertTrue(all(in_family(family, run_liars(pact, run)) for run in runs))
                # What is said to the first hands is the same in all of the runs.
                for answers in itertools.product(("bound", "void"), repeat=len(found.row)):
                    wrong = [run for run in runs if run_wrongs(pact, run, answers[:len(run_heard(pact, run))])]
                    self.assertTrue(wrong)
                many += len(found.row)
        self.assertGreater(many, 100)

    def test_known_pacts(self):
        nobody, anybody = ((),), sized_family(tuple("abcdef"), 1)
        pact = chain_pact(tuple("abcdef"), 40)
        self.assertIsInstance(court(pact, nobody), Just)
        self.assertIsInstance(court(pact, anybody), Just)
        self.assertIsInstance(court(pact, (tuple("abcdef"),)), Just)
        self.assertIsInstance(court(chain_pact(tuple("abcdef"), 35), (tuple("abcdef"),)), Torn)
        loose = loose_pact((2, 2))
        self.assertEqual(court(loose, nobody), Torn("b", ("a",)))

    def test_calls_between_change_nothing(self):
        one, other = base_pact(), torn_pact()
        before = court(one, ONE_LIES)
        self.assertNotEqual(court(other, ONE_LIES), before)
        self.assertEqual(court(one, ONE_LIES), before)


def runs_of_torn(pact, torn):
    """The runs in which the hands of its row come in turn and show their moments."""
    events, sent, runs = [], set(), []
    for at, (hand, moment) in enumerate(zip(torn.row, row_moments(pact, torn.hand, torn.row))):
        events += [("send", name) for name in pact.names if name in moment and name not in sent]
        events.append(("ask", hand, moment))
        sent |= set(moment)
        if at > 0:
            runs.append(tuple(events))
    rest = [("send", name) for name in pact.names if name in set(whole_paper(pact)) - sent]
    return runs + [tuple(events + rest)]


def notary_wins(pact, runs):
    """Whether some rule wrongs nobody honest in any of the runs: its answers are tried one by one."""
    by_heard = {}
    for run in runs:
        heard = run_heard(pact, run)
        by_heard.setdefault(heard, []).append(run)
        for many in range(len(heard)):
            by_heard.setdefault(heard[:many], [])
    behind = {}
    for heard in by_heard:
        if heard:
            behind.setdefault(heard[:-1], []).append(heard)

    def wins(heard, answers):
        if any(run_wrongs(pact, run, answers) for run in by_heard[heard]):
            return False
        return all(any(wins(longer, answers + (answer,)) for answer in ("bound", "void"))
                   for longer in behind.get(heard, []))

    return wins((), ())


class CheckTest(unittest.TestCase):
    def test_other_values(self):
        pact = base_pact()
        for value in (None, True, "Just", (), court(pact, ONE_LIES).table, ("a", ("b",)), pact, [Just(())]):
            self.assertIs(check_court(pact, ONE_LIES, value), False)

    def test_torns(self):
        pact = torn_pact()
        rows = [row for row in all_rows("ab") if in_family(ONE_LIES, row[:-1])]
        for hand in "ab":
            for row in rows:
                self.assertIs(check_court(pact, ONE_LIES, Torn(hand, row)), not row_holds(pact, hand, row))
        self.assertIs(check_court(pact=pact, family=ONE_LIES, value=Torn("b", ("a", "b"))), True)
        self.assertIs(check_court(pact, ((),), Torn("b", ("a", "b"))), False)
        for hand in (None, "c", "m", ["b"], 1, ("b",), pact):
            self.assertIs(check_court(pact, ONE_LIES, Torn(hand, ("a", "b"))), False)
        for row in (None, (), ["a", "b"], ("a", "b", "c"), ("a", "a"), "ab", (["a"], "b"), ("a", None), 1, pact,
                    ("c", "b"), ("a", "b", "a")):
            self.assertIs(check_court(pact, ONE_LIES, Torn("b", row)), False)
        for pact, family in tried(98, 10):
            for row in all_rows(pact.hands):
                for hand in pact.hands:
                    expected = in_family(family, row[:-1]) and not row_holds(pact, hand, row)
                    self.assertIs(check_court(pact, family, Torn(hand, row)), expected)

    def test_tables_changed_at_one_place(self):
        rng, let_pass, held = random.Random(99), 0, 0
        for pact, family in tried(99, 60):
            found = court(pact, family)
            if isinstance(found, Torn):
                table = naive_table(pact, family)
                self.assertIs(check_court(pact, family, Just(table)), False)
                continue
            self.assertIs(check_court(pact, family, Just(found.table)), True)
            for at, (lot, hand, level) in enumerate(found.table):
                for change in (-1, 1, rng.randint(-3, 3)):
                    table = found.table[:at] + ((lot, hand, level + change),) + found.table[at + 1:]
                    expected = slow_check(pact, table)
                    self.assertIs(check_court(pact, family, Just(table)), expected)
                    let_pass, held = let_pass + expected, held + (not expected)
        self.assertGreater(min(let_pass, held), 50)

    def test_tables_of_other_forms(self):
        pact = base_pact()
        table = court(pact, ONE_LIES).table
        self.assertEqual(table[1], (("b",), "b", 0))
        self.assertIs(check_court(pact, ONE_LIES, Just(table)), True)
        for value in (None, list(table), table[:-1], table + table[:1], (), table[::-1], 1, "table", pact, True):
            self.assertIs(check_court(pact, ONE_LIES, Just(value)), False)
        for place in (None, (), list(table[0]), (["a"], "a", 1), (("a",), "b", 1), (("b",), "a", 1), (("a",), "a"),
                      (("a",), "a", 1, 1), (("a",), "a", True), (("a",), "a", "1"), (("a",), "a", None),
                      (("a",), ["a"], 1), ("a", "a", 1), (("a",), "a", (1,)), (("a",), "a", pact)):
            self.assertIs(check_court(pact, ONE_LIES, Just((place,) + table[1:])), False, place)
        self.assertIs(check_court(pact, ONE_LIES, Just((table[0], (("b",), "b", False)) + table[2:])), False)

    def test_no_table_passes_for_a_torn_pact(self):
        for pact, family in tried(100, 12, hands=(2, 2), notes=(2, 5)):
            places = [(lot, hand) for lot, hand, _ in court_table(pact, family)]
            passed = [levels for levels in itertools.product(
                *(range(top_of(pact, hand) + 1) for _, hand in places))
                if check_court(pact, family, Just(tuple(
                    (lot, hand, level) for (lot, hand), level in zip(places, levels))))]
            self.assertEqual(bool(passed), isinstance(court(pact, family), Just))


def slow_check(pact, table):
    """What [26] asks of each level of a table."""
    told = {(lot, hand): level for lot, hand, level in table}
    for (lot, hand), level in told.items():
        others = tuple(one for one in lot if one != hand)
        if level < 0 or level > level_of(pact, key_note(pact, hand)):
            return False
        notes = [notes_of(pact, one)[told[(others, one)]] for one in others] if others else pact.ready
        if any(level < next_level(pact, hand, note) for note in notes):
            return False
    return True


class SafeTest(unittest.TestCase):
    def test_against_the_words(self):
        for pact, family in tried(101, 25):
            safe = safe_notes(pact, family)
            starts = [set(row_starts(pact, row)) for row in naive_rows(pact, family)]
            self.assertEqual(safe, tuple(sorted(set.intersection(*starts))))
            just = isinstance(court(pact, family), Just)
            self.assertEqual(just, set(pact.ready) <= set(safe))
            self.assertIs(need_moment(pact, safe), safe)
            self.check_least_paper(pact, family, just)

    def check_least_paper(self, pact, family, just):
        least = least_paper(pact, family)
        levels = {}
        for _, hand, level in naive_table(pact, family):
            levels[hand] = max(level, levels.get(hand, 0))
        if any(level == top_of(pact, hand) for hand, level in levels.items()):
            self.assertIsNone(least)
        else:
            self.assertEqual(least, closure_of(pact, [notes_of(pact, hand)[level] for hand, level in levels.items()]))
            other = Pact(pact.hands, pact.notes, pact.ready, least)
            self.assertIsInstance(court(other, family), Just)
        self.assertEqual(just, least is not None and set(least) <= set(whole_paper(pact)))

    def test_whatever_the_paper(self):
        self.assertEqual(least_paper(torn_pact(), ((),)), ("m", "n", "o"))
        self.assertIsNone(least_paper(loose_pact((2, 2)), ((),)))
        pact = chain_pact(("a", "b"), 40, paper=note_names(40))
        self.assertEqual(least_paper(pact, (("a", "b"),)), note_names(40)[:4])
        self.assertEqual(least_paper(pact, ((),)), note_names(40)[:3])
        self.assertEqual(safe_notes(pact, ((),)), note_names(40)[:39])

    def test_joined_families(self):
        for pact in close_pacts(102, 14, hands=(3, 3), notes=(6, 11)):
            families = all_families(sorted(pact.hands))
            just = {family: isinstance(court(pact, family), Just) for family in families}
            for one in families:
                for other in families:
                    self.assertEqual(just[family_join(one, other)], just[one] and just[other])

    def test_if_nobody_or_one_lies(self):
        justs = 0
        for pact in small_pacts(103, 60, notes=(4, 9)) + close_pacts(103, 120, hands=(2, 4), notes=(5, 12)):
            keys = [key_note(pact, hand) for hand in pact.hands]
            nobody = all(lies_under(pact, ready, key) for ready in pact.ready for key in keys)
            self.assertEqual(isinstance(court(pact, ((),)), Just), nobody)
            one = all(any(lies_under(pact, ready, note) and lies_under(pact, note, key_note(pact, second))
                          for note in notes_of(pact, first))
                      for ready in pact.ready for first in pact.hands for second in pact.hands if first != second)
            found = isinstance(court(pact, sized_family(tuple(sorted(pact.hands)), 1)), Just)
            self.assertEqual(found, one)
            justs += found
        self.assertGreater(justs, 5)


if __name__ == "__main__":
    unittest.main()
