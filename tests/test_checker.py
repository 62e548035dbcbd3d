"""[86] and [87]: a small checker of papers."""

import itertools
import random
import unittest

from boundorvoid.borne import borne_holds, borne_paper
from boundorvoid.checker import sheet_holds
from boundorvoid.climbs import ladder_holds, need_row
from boundorvoid.court import Just, Torn, check_court, court
from boundorvoid.dooms import least_trap, trap_holds
from boundorvoid.errors import InvalidAsk, InvalidFamily, InvalidRow, InvalidRun
from boundorvoid.families import in_family, need_family
from boundorvoid.pacts import has_hand, whole_paper
from boundorvoid.prospects import Lost, Safe, check_prospect, prospect
from boundorvoid.runs import heard_liars, need_heard, need_history, need_run, run_heard, run_liars

from tests.helpers import all_families, all_rows, all_runs, base_pact, close_pacts, random_history, small_pacts
from tests.sheets import changes, has_list, possible_histories, prospect_sheet, sheets_of

KINDS = {"just": 1, "torn": 1, "unkept": 2, "ladder": 2, "hopeless": 0, "trap": 1, "borne": 0, "heard": 2, "filled": 2,
         "safe": 2, "lost": 2}
ONE_LIES = (("a",), ("b",))


def passes(error, call, *told):
    try:
        call(*told)
    except error:
        return False
    return True


def is_lot(pact, value):
    return (isinstance(value, tuple) and all(isinstance(name, str) and name in pact.hands for name in value)
            and list(value) == sorted(set(value)))


def is_question(pact, kind, question):
    if not isinstance(question, tuple) or len(question) != KINDS[kind]:
        return False
    if kind in ("just", "torn", "trap", "unkept", "safe", "lost") and not passes(
            InvalidFamily, need_family, pact, question[0]):
        return False
    if kind in ("heard", "filled") and not passes(InvalidAsk, need_heard, pact, question[0]):
        return False
    if kind in ("unkept", "heard", "filled"):
        return is_lot(pact, question[1])
    if kind == "ladder":
        return has_hand(pact, question[0]) and passes(InvalidRow, need_row, pact, question[1])
    return kind not in ("safe", "lost") or passes(InvalidAsk, need_history, pact, question[1])


def naive_holds(pact, kind, question, value):
    """The table of the document, row by row."""
    if not is_question(pact, kind, question) or has_list(value):
        return False
    many = len(value) if isinstance(value, tuple) else -1
    if kind == "just":
        return check_court(pact, question[0], Just(value))
    if kind in ("torn", "unkept"):
        return many == 2 and check_court(pact, question[0], Torn(*value)) and (
            kind == "torn" or {value[0], *value[1]} <= set(question[1]))
    if kind == "ladder":
        return ladder_holds(pact, *question, value)
    if kind == "trap":
        return trap_holds(pact, question[0], value)
    if kind == "borne":
        return borne_holds(pact, value)
    if kind in ("safe", "lost"):
        family, history = question
        if not in_family(family, heard_liars(pact, tuple(entry[:2] for entry in history))):
            return False
        if kind == "safe":
            return check_prospect(pact, family, history, Safe(value))
        return many == 3 and check_prospect(pact, family, history, Lost(*value))
    if not passes(InvalidRun, need_run, pact, value):
        return False
    sent = [event[1] for event in value if event[0] == "send"]
    filled = set(whole_paper(pact)) <= set(sent)
    if kind == "hopeless":
        early = any(event[0] == "ask" and not {("send", note) for note in pact.ready} <= set(value[:at])
                    for at, event in enumerate(value))
        return filled and early and run_liars(pact, value) == ()
    return run_heard(pact, value) == question[0] and run_liars(pact, value) == question[1] and (
        kind == "heard" or filled)


class SheetTest(unittest.TestCase):
    def test_each_kind_holds(self):
        found = []
        for seed, pact in enumerate(small_pacts(860, 30) + close_pacts(860, 30, notes=(5, 8))):
            for kind, question, value in sheets_of(pact, seed):
                self.assertIs(sheet_holds(pact, kind, question, value), True)
                self.assertTrue(naive_holds(pact, kind, question, value))
                found.append(kind)
        for kind in KINDS:
            self.assertGreater(found.count(kind), 15, kind)

    def test_changed_at_one_place(self):
        rng, found = random.Random(861), []
        for seed, pact in enumerate(small_pacts(861, 14) + close_pacts(861, 14, notes=(5, 8)) + [base_pact()]):
            for kind, question, value in sheets_of(pact, seed, families=2):
                told = [(question, other) for other in changes(value)] + [(other, value) for other in changes(question)]
                for asked, shown in rng.sample(told, min(60, len(told))):
                    expected = naive_holds(pact, kind, asked, shown)
                    self.assertIs(sheet_holds(pact, kind, asked, shown), expected, (kind, asked, shown))
                    if has_list((asked, shown)):
                        self.assertFalse(expected)
                    found.append((kind, expected))
        for kind in KINDS:
            self.assertGreater(found.count((kind, False)), 50, kind)
        self.assertGreater(len({kind for kind, expected in found if expected}), 5)

    def test_all_values_for_all_kinds(self):
        values = [None, True, 0, "a", (), ("a",), ("a", ("b",)), ("a", ("a",)), ("a", "o", ("b",)), ("a", None, ()), [],
                  Just(()), Torn("a", ("b",)), Safe(()), Lost("a", None, ()), base_pact(), ((),), (("a",), ("b",)),
                  (None, ()), (((),), ()), borne_paper(base_pact()), (("send", "m"),), ((("send", "m"),),),
                  ((("b",), "b", True), (("a",), "a", True))]
        questions = [(), (((),),), (ONE_LIES,), (ONE_LIES, ("a", "b")), (ONE_LIES, ()), ("a", ("b", "a")), ((), ()),
                     ((), ("a",)), None, True, [((),)], (None,), ("a",), (("c",),), ((),), ((("c",),),), (ONE_LIES, "ab"),
                     ((("a", ("m",)),), ("a",)), (ONE_LIES, (("a", ("m",), "void"),)), ((["a"],),), "a", (ONE_LIES, []),
                     (ONE_LIES, ("b", "a")), (ONE_LIES, ("x",)), ("x", ("a",)), ("a", ()), ("a", ("x",))]
        for pact in (base_pact(), base_pact("n"), base_pact("o")):
            for kind, question, value in itertools.product(KINDS, questions, values):
                self.assertIs(sheet_holds(pact, kind, question, value), naive_holds(pact, kind, question, value),
                              (kind, question))

    def test_kinds_that_are_none(self):
        pact = base_pact()
        table = court(pact, ((),)).table
        self.assertIs(sheet_holds(pact=pact, kind="just", question=(((),),), value=table), True)
        for kind in (None, True, 0, "", "Just", "pact", ("just",), ["just"], pact, "holds"):
            self.assertIs(sheet_holds(pact, kind, (((),),), table), False)

    def test_bools_are_no_levels(self):
        pact = base_pact()
        table = court(pact, ((),)).table
        self.assertIn(1, [level for _, _, level in table])
        told = tuple((lot, hand, True if level == 1 else level) for lot, hand, level in table)
        self.assertEqual(told, table)
        self.assertFalse(sheet_holds(pact, "just", (((),),), told))
        self.assertFalse(sheet_holds(pact, "just", (((),),), list(table)))
        self.assertFalse(sheet_holds(pact, "just", [((),)], table))
        self.assertFalse(sheet_holds(pact, "just", ([()],), table))

    def test_hopeless_runs(self):
        found = []
        for pact in [base_pact("n"), base_pact()] + small_pacts(862, 8, hands=(2, 2), notes=(3, 4)):
            for run in all_runs(pact, most_events=6):
                expected = naive_holds(pact, "hopeless", (), run)
                self.assertEqual(sheet_holds(pact, "hopeless", (), run), expected)
                found.append(expected)
        self.assertGreater(found.count(True), 10)


class NeverBothTest(unittest.TestCase):
    def test_over_all_kinds(self):
        pacts = small_pacts(863, 40) + close_pacts(863, 40, notes=(5, 8))
        both = []
        for seed, pact in enumerate(pacts):
            sheets = sheets_of(pact, seed, families=8)
            told = {}
            for kind, question, value in sheets:
                told.setdefault((kind, question), []).append(value)
            kinds = [kind for kind, _ in told]
            for kind, question in told:
                for one, other in (("just", "torn"), ("just", "trap"), ("safe", "lost")):
                    if kind == one:
                        self.assertNotIn((other, question), told)
                if kind == "just":
                    self.assertFalse([key for key in told if key[0] == "unkept" and key[1][0] == question[0]])
                    self.assertNotIn("hopeless", kinds)
                if kind == "borne" and told[kind, question][0][0] is not None:
                    self.assertNotIn("hopeless", kinds)
                if kind in ("torn", "unkept"):
                    self.assertNotIn(("ladder", told[kind, question][0]), told)
            both.append("hopeless" in kinds)
        self.assertGreater(min(both.count(True), both.count(False)), 10)

    def test_none_of_the_other_kind_can_hold(self):
        rng = random.Random(864)
        for pact in small_pacts(864, 15, hands=(2, 2)) + close_pacts(864, 25, hands=(2, 2), notes=(5, 6)):
            rows = [(hand, row) for hand in pact.hands for row in all_rows(pact.hands)]
            for family in all_families(pact.hands):
                just = isinstance(court(pact, family), Just)
                torn = [pair for pair in rows if sheet_holds(pact, "torn", (family,), pair)]
                self.assertEqual(just, not torn)
                self.assertEqual(just, sheet_holds(pact, "just", (family,), getattr(court(pact, family), "table", None)))
                for pair in rows:
                    lots = [("a", "b")] if pact.hands == ("a", "b") else [tuple(sorted(pact.hands))]
                    for lot in lots:
                        if sheet_holds(pact, "unkept", (family, lot), pair):
                            self.assertFalse(just)
                if just:
                    other = court(small_pacts(865, 1, hands=(2, 2))[0], ((),))
                    self.assertFalse(sheet_holds(pact, "trap", (family,), (other,)))
                else:
                    self.assertTrue(sheet_holds(pact, "trap", (family,), least_trap(pact, family)))
                for history in possible_histories(pact, family, rng, 4):
                    kind, question, value = prospect_sheet(pact, family, history)
                    self.assertTrue(sheet_holds(pact, kind, question, value))
                    for hand in pact.hands:
                        for note, row in [(None, ())] + [(name, row) for name in pact.names
                                                         for row in all_rows(pact.hands)]:
                            if sheet_holds(pact, "lost", question, (hand, note, row)):
                                self.assertEqual(kind, "lost")
            self.assertTrue(sheet_holds(pact, "borne", (), borne_paper(pact)))

    def test_histories_that_are_not_possible(self):
        rng, many = random.Random(866), 0
        for pact in close_pacts(866, 40, notes=(5, 8)):
            history = random_history(rng, pact)
            if heard_liars(pact, tuple(entry[:2] for entry in history)):
                for value in [()] + [(hand, None, ()) for hand in pact.hands]:
                    for kind in ("safe", "lost"):
                        self.assertFalse(sheet_holds(pact, kind, (((),), history), value))
                many += 1
        self.assertGreater(many, 10)
        self.assertIsInstance(prospect(base_pact(), ((),), ()), Safe)


if __name__ == "__main__":
    unittest.main()
