"""[88]: books, and what follows from their sheets."""

import itertools
import random
import unittest

from boundorvoid.books import Book
from boundorvoid.checker import sheet_holds
from boundorvoid.climbs import climb, row_holds
from boundorvoid.court import Just, court
from boundorvoid.families import in_family
from boundorvoid.kept import torn_in
from boundorvoid.pacts import Pact
from boundorvoid.runs import run_liars

from tests.helpers import all_families, all_rows, base_pact, chain_pact, close_pacts, small_pacts, subsets
from tests.sheets import court_sheet, prospect_sheet, sheets_of, with_more_waits

ONE_LIES = (("a",), ("b",))


def has_part(row, part):
    return any(tuple(row[at] for at in places) == part
               for places in itertools.combinations(range(len(row)), len(part)))


def family_of_sheet(sheet):
    kind, question, value = sheet
    if kind == "borne":
        return value[0]
    if kind == "just" or kind == "safe" and question[1] == ():
        return question[0]
    return None


def follows(claim, question, sheets, pact):
    """Whether a claim follows from some sheets together, by the table of the document."""
    kinds = [kind for kind, _, _ in sheets]
    families = [family_of_sheet(sheet) for sheet in sheets]
    if claim == "just":
        return None not in families and sheets != () and all(
            any(in_family(family, lot) for family in families) for lot in question[0])
    if len(sheets) != 1:
        return False
    (kind, asked, value), family = sheets[0], families[0]
    torn = kinds[0] in ("torn", "unkept")
    if claim == "torn":
        if kind == "trap":
            return all(in_family(question[0], run_liars(pact, run)) for run in value)
        if kind == "borne":
            return family is None or any(not in_family(family, lot) for lot in question[0])
        return kind == "hopeless" or torn and in_family(question[0], tuple(sorted(value[1][:-1])))
    if claim == "holds":
        hand, row = question
        return (kind == "ladder" and asked[0] == hand and has_part(asked[1], row) or
                family is not None and in_family(family, tuple(sorted(row[:-1]))))
    if claim == "fails":
        return torn and value[0] == question[0] and has_part(question[1], value[1])
    return torn and {value[0], *value[1]} <= set(question[1]) and in_family(question[0], tuple(sorted(value[1][:-1])))


def naive_knows(book, claim, question):
    lots = subsets(range(len(book.sheets)))
    found = [lot for lot in lots if follows(claim, question, tuple(book.sheets[at] for at in lot), book.pact)]
    return min(found, key=lambda lot: (len(lot), lot), default=None)


def claims_about(pact):
    hands = tuple(sorted(pact.hands))
    rows = [(hand, row) for hand in hands for row in all_rows(hands)]
    families = all_families(hands)
    return ([("just", (family,)) for family in families] + [("torn", (family,)) for family in families] +
            [("holds", pair) for pair in rows] + [("fails", pair) for pair in rows] +
            [("not kept", (family, lot)) for family in families for lot in subsets(hands)])


def is_true(pact, claim, question):
    if claim in ("just", "torn"):
        return isinstance(court(pact, question[0]), Just) == (claim == "just")
    if claim == "not kept":
        return torn_in(pact, *question) is not None
    return row_holds(pact, *question) == (claim == "holds")


class BookTest(unittest.TestCase):
    def test_put(self):
        pact = base_pact()
        book = Book(pact)
        self.assertEqual((book.pact, book.sheets), (pact, ()))
        sheet = court_sheet(pact, ONE_LIES)
        self.assertIs(book.put(sheet), True)
        self.assertEqual(book.sheets, (sheet,))
        self.assertIs(book.put(sheet=sheet), True)
        self.assertEqual(book.sheets, (sheet, sheet))
        for value in (None, True, "just", (), sheet[:2], sheet + (None,), list(sheet), (sheet,), ("torn", *sheet[1:]),
                      (sheet[0], list(sheet[1]), sheet[2]), (sheet[0], sheet[1], list(sheet[2])), (None, None, None),
                      ("just", (((), ("a",)),), sheet[2]), pact, ("just", (((),),), sheet[2])):
            self.assertIs(book.put(value), False)
        self.assertEqual(book.sheets, (sheet, sheet))

    def test_only_what_holds_is_kept(self):
        for seed, pact in enumerate(small_pacts(880, 20) + close_pacts(880, 20, notes=(5, 8))):
            other = close_pacts(seed, 1)[0]
            sheets = sheets_of(pact, seed) + sheets_of(other, seed)[:6]
            book, kept = Book(pact), []
            for kind, question, value in sheets:
                holds = sheet_holds(pact, kind, question, value)
                self.assertIs(book.put((kind, question, value)), holds)
                kept += [(kind, question, value)] if holds else []
                self.assertEqual(book.sheets, tuple(kept))

    def test_knows_against_the_table(self):
        rng, found = random.Random(881), []
        pacts = small_pacts(881, 40, hands=(2, 3)) + close_pacts(881, 50, hands=(2, 3), notes=(5, 8))
        for seed, pact in enumerate(pacts):
            sheets, book = sheets_of(pact, seed, families=6), Book(pact)
            kinds = [sheet for sheet in sheets if sheet[0] not in ("heard", "filled")]
            for sheet in rng.sample(sheets, min(2, len(sheets))) + rng.sample(kinds, min(4, len(kinds))):
                self.assertTrue(book.put(sheet))
            claims = claims_about(pact)
            for claim, question in rng.sample(claims, min(60, len(claims))):
                expected = naive_knows(book, claim, question)
                self.assertEqual(book.knows(claim, question), expected)
                if expected is not None:
                    self.assertTrue(is_true(pact, claim, question))
                    found.append((claim, len(expected)))
        for claim in ("just", "torn", "holds", "fails", "not kept"):
            self.assertGreater(found.count((claim, 1)), 30, claim)
        self.assertGreater(found.count(("just", 2)), 3)

    def test_each_sheet_alone(self):
        told = {}
        for seed, pact in enumerate(small_pacts(882, 25, hands=(2, 3)) + close_pacts(882, 25, hands=(2, 3))):
            for sheet in sheets_of(pact, seed):
                book = Book(pact)
                book.put(sheet)
                for claim, question in claims_about(pact)[::3]:
                    expected = (0,) if follows(claim, question, (sheet,), pact) else None
                    self.assertEqual(book.knows(claim, question), expected)
                    told[sheet[0], claim] = told.get((sheet[0], claim), 0) + (expected is not None)
        for kind, claim in (("just", "just"), ("borne", "just"), ("safe", "just"), ("hopeless", "torn"),
                            ("torn", "torn"), ("unkept", "torn"), ("trap", "torn"), ("borne", "torn"),
                            ("ladder", "holds"), ("just", "holds"), ("borne", "holds"), ("safe", "holds"),
                            ("torn", "fails"), ("unkept", "fails"), ("torn", "not kept"), ("unkept", "not kept")):
            self.assertGreater(told.pop((kind, claim)), 3, (kind, claim))
        self.assertEqual(set(told.values()), {0})

    def test_two_together_and_the_least_lot(self):
        pact = chain_pact(("a", "b", "c"), 12)
        book = Book(pact)
        one, other = court_sheet(pact, (("a",),)), court_sheet(pact, (("b",),))
        both = prospect_sheet(pact, (("a",), ("b",)), ())
        self.assertIsNone(book.knows("just", (((),),)))
        for sheet in (one, ("safe", *prospect_sheet(pact, (("b",),), ())[1:]), other):
            self.assertTrue(book.put(sheet))
        self.assertEqual(book.knows("just", (((),),)), (0,))
        self.assertEqual(book.knows("just", ((("b",),),)), (1,))
        self.assertEqual(book.knows("just", ((("a",), ("b",)),)), (0, 1))
        self.assertIsNone(book.knows("just", ((("a",), ("b",), ("c",)),)))
        self.assertIsNone(book.knows("just", ((("a", "b"),),)))
        book.put(both)
        self.assertEqual(book.knows("just", ((("a",), ("b",)),)), (3,))
        self.assertEqual(book.knows("just", ((("b",),),)), (1,))
        # A safe sheet of a history with asks tells nothing of the family.
        later = Book(pact)
        self.assertTrue(later.put(prospect_sheet(pact, (("a",),), (("b", (), "void"),))))
        self.assertIsNone(later.knows("just", (((),),)))

    def test_a_part_of_a_row(self):
        pact = chain_pact(("a", "b", "c"), 12)
        book = Book(pact)
        self.assertTrue(book.put(("ladder", ("a", ("c", "a", "b")), climb(pact, "a", ("c", "a", "b")))))
        for row in all_rows("abc"):
            expected = (0,) if row in (("c",), ("a",), ("b",), ("c", "a"), ("c", "b"), ("a", "b"), ("c", "a", "b")) else None
            self.assertEqual(book.knows("holds", ("a", row)), expected)
            self.assertIsNone(book.knows("holds", ("b", row)))
        torn = Book(base_pact("o"))
        self.assertTrue(torn.put(("torn", (ONE_LIES,), ("b", ("a", "b")))))
        self.assertEqual(torn.knows("fails", ("b", ("a", "b"))), (0,))
        self.assertIsNone(torn.knows("fails", ("a", ("a", "b"))))
        self.assertIsNone(torn.knows("fails", ("b", ("b",))))
        self.assertEqual(torn.knows("not kept", (ONE_LIES, ("a", "b"))), (0,))
        self.assertIsNone(torn.knows("not kept", ((("b",),), ("a", "b"))))

    def test_claims_and_questions_that_are_none(self):
        book = Book(base_pact())
        book.put(court_sheet(base_pact(), ONE_LIES))
        self.assertEqual(book.knows(claim="just", question=(ONE_LIES,)), (0,))
        for claim in (None, True, 0, "", "Just", "safe", "borne", ["just"], ("just",), base_pact()):
            self.assertIsNone(book.knows(claim, (ONE_LIES,)))
        for question in (None, True, (), [ONE_LIES], ONE_LIES, (ONE_LIES, ("a",)), ((("a",), ["b"]),), (None,),
                         ((("c",),),), (((), ("a",)),), ([((),)],), "a", ((),), (list(ONE_LIES),)):
            for claim in ("just", "torn"):
                self.assertIsNone(book.knows(claim, question))
        for question in (("a", ()), ("a", ["b"]), ("x", ("a",)), ("a", ("x",)), ("a", ("a", "a")), (1, ("a",)), ("a",),
                         (["a"], ("a",)), ("a", "b"), ("a", ("b",), 1)):
            for claim in ("holds", "fails"):
                self.assertIsNone(book.knows(claim, question))
        for question in ((ONE_LIES, ("b", "a")), (ONE_LIES, ("x",)), (ONE_LIES, ["a"]), (("x",), ("a",)), (ONE_LIES,),
                         (ONE_LIES, ("a",), 1), (None, ("a",))):
            self.assertIsNone(book.knows("not kept", question))
        self.assertEqual(book.knows("holds", ("a", ("b",))), (0,))
        self.assertIsNone(Book(base_pact()).knows("holds", ("a", ("b",))))

    def test_moved(self):
        rng, kept = random.Random(883), []
        for seed, pact in enumerate(small_pacts(884, 25) + close_pacts(884, 25, notes=(5, 8))):
            book = Book(pact)
            for sheet in sheets_of(pact, seed):
                book.put(sheet)
            sheets = book.sheets
            other = with_more_waits(pact, rng)
            new = book.moved(pact=other)
            self.assertIsInstance(new, Book)
            self.assertEqual(new.pact, other)
            self.assertEqual(new.sheets, tuple(sheet for sheet in sheets if sheet_holds(other, *sheet)))
            self.assertEqual((book.pact, book.sheets), (pact, sheets))
            new.put(sheets[0])
            self.assertEqual(book.sheets, sheets)
            self.assertEqual(book.moved(pact).sheets, sheets)
            kept.append((0 < len(new.sheets) < len(sheets)))
        self.assertGreater(kept.count(True), 15)

    def test_nothing_else_changes_it(self):
        pact = base_pact()
        book = Book(pact)
        sheets = sheets_of(pact, 885)
        for sheet in sheets:
            book.put(sheet)
        told = book.sheets
        self.assertIsInstance(told, tuple)
        for claim, question in claims_about(pact):
            self.assertEqual(book.knows(claim, question), book.knows(claim, question))
        book.put(("just", (((),),), [1]))
        book.moved(base_pact("n"))
        self.assertIs(book.sheets, told)
        strange = Pact(("a", "c"), [("m", "a", ()), ("n", "c", ())], ("m", "n"), ("m", "n"))
        self.assertTrue(set(kind for kind, _, _ in book.moved(strange).sheets) <= {"heard", "ladder", "borne"})


if __name__ == "__main__":
    unittest.main()
