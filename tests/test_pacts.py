"""[5] and [6]: pacts, and what lies under what."""

import unittest

from boundorvoid.errors import InvalidPact, NoName
from boundorvoid.pacts import Pact, hand_of, key_note, lies_under, notes_of, ready_note, under_of, whole_paper

from tests.helpers import base_pact, chain_pact, naive_under, naive_whole, note_names, owners_of, raised, small_pacts

HANDS = ["a", "b"]
NOTES = [("m", "a", ()), ("n", "b", ("m",)), ("o", "a", ()), ("p", "b", ("o",))]
READY = ["m", "n"]
PAPER = ("n", "o")


class Other:
    """An object of another class that has all that a pact has."""

    def __init__(self, pact):
        vars(self).update(vars(pact))


def wrong(hands=HANDS, notes=NOTES, ready=READY, paper=PAPER):
    return raised(InvalidPact, Pact, hands, notes, ready, paper)


class PactTest(unittest.TestCase):
    def test_attributes(self):
        pact = Pact(HANDS, NOTES, READY, PAPER)
        self.assertEqual(pact.hands, ("a", "b"))
        self.assertEqual(pact.notes, tuple(NOTES))
        self.assertEqual(pact.ready, ("m", "n"))
        self.assertEqual(pact.paper, ("n", "o"))
        self.assertEqual(pact.names, ("m", "n", "o", "p"))
        self.assertEqual(Pact(hands=HANDS, notes=NOTES, ready=READY, paper=PAPER), pact)
        self.assertEqual(Pact(tuple(HANDS), tuple(NOTES), tuple(READY), PAPER), pact)

    def test_later_changes_have_no_effect(self):
        hands, notes, ready = list(HANDS), list(NOTES), list(READY)
        pact = Pact(hands, notes, ready, PAPER)
        hands[0], ready[0] = "z", "o"
        notes.pop()
        self.assertEqual(pact, Pact(HANDS, NOTES, READY, PAPER))
        self.assertEqual(ready_note(pact, "a"), "m")
        self.assertEqual(notes_of(pact, "b"), ("n", "p"))

    def test_equality(self):
        pact = Pact(HANDS, NOTES, READY, PAPER)
        self.assertTrue(pact == Pact(HANDS, NOTES, READY, PAPER))
        self.assertFalse(pact != Pact(HANDS, NOTES, READY, PAPER))
        self.assertFalse(pact == Pact(HANDS[::-1], NOTES, READY[::-1], PAPER))
        self.assertFalse(pact == Pact(HANDS, NOTES[:3] + [("p", "b", ())], READY, PAPER))
        self.assertFalse(pact == Pact(HANDS, NOTES, ["m", "p"], PAPER))
        self.assertFalse(pact == Pact(HANDS, NOTES, READY, ("m", "n", "o")))
        for other in (None, 1, "pact", (pact.hands, pact.notes, pact.ready, pact.paper), Other(pact)):
            self.assertFalse(pact == other)
            self.assertTrue(pact != other)

    def test_no_length_and_no_iteration(self):
        pact = base_pact()
        self.assertRaises(TypeError, len, pact)
        self.assertRaises(TypeError, iter, pact)

    def test_wrong_hands(self):
        names = ["a", "b", "c", "d", "e", "f", "g"]
        for hands in ("ab", None, 2, True, {"a": 1, "b": 2}, [], ["a"], names, ["a", "a"], ["a", "B"], ["a", ""],
                      ["a", "abcdefghi"], ["a", 1], ["a", None], ["a", ["b"]], ["a", "b1"], ["a", "b "], ["a", "\xe9"],
                      ["a", "\u03b1"], base_pact()):
            self.assertEqual(wrong(hands=hands), "hands", hands)
        self.assertEqual(wrong(hands=["a"], notes=None, ready=None, paper=None), "hands")

    def test_two_and_six_hands(self):
        for many in (2, 6):
            hands = ["h" * k for k in range(1, many + 1)]
            notes = [("x" * k, "h" * k, ()) for k in range(1, many + 1)]
            ready = [note[0] for note in notes]
            self.assertEqual(len(Pact(hands, notes, ready, tuple(ready)).hands), many)
        self.assertEqual(chain_pact(["abcdefgh", "b"], 2).hands, ("abcdefgh", "b"))

    def test_two_and_forty_notes(self):
        self.assertEqual(len(chain_pact(["a", "b"], 2).notes), 2)
        self.assertEqual(len(chain_pact(["a", "b"], 40).notes), 40)
        self.assertEqual(raised(InvalidPact, chain_pact, ["a", "b"], 41), "notes")
        for notes in (NOTES[:1], [], None, "mn", 7, {1: 2, 3: 4}, [None] * 41):
            self.assertEqual(wrong(notes=notes, ready=None), "notes")

    def test_wrong_notes(self):
        for note in (["n", "b", ("m",)], ("n", "b"), ("n", "b", ("m",), ()), None, "nbm", True, ("m", "b", ()),
                     ("N", "b", ()), ("", "b", ()), (1, "b", ()), ("n", "c", ()), ("n", None, ()), ("n", ["b"], ()),
                     ("n", "m", ()), ("n", "b", ["m"]), ("n", "b", "m"), ("n", "b", None), ("n", "b", ("o",)),
                     ("n", "b", ("n",)), ("n", "b", ("m", "m")), ("n", "b", (1,)), ("n", "b", (["m"],)),
                     ("n", "b", ("a",)), (["n"], "b", ())):
            self.assertEqual(wrong(notes=NOTES[:1] + [note] + NOTES[2:], ready=None, paper=None), 1, note)
        self.assertEqual(wrong(notes=[None, None]), 0)
        self.assertEqual(wrong(notes=NOTES[:3] + [("p", "b", ("o", "m"))]), 3)
        self.assertEqual(wrong(notes=NOTES[:3] + [("m", "b", ())]), 3)

    def test_wrong_ready(self):
        for ready in (None, "mn", [], ["m"], ["m", "n", "o"], ["n", "m"], ["m", "m"], ["m", "x"], ["m", None],
                      ["m", ["n"]], [True, "n"], ["a", "b"]):
            self.assertEqual(wrong(ready=ready, paper=None), "ready", ready)
        self.assertEqual(wrong(notes=[("m", "a", ()), ("n", "a", ())], ready=["m", "n"]), "ready")

    def test_wrong_paper(self):
        for paper in (None, ["n", "o"], "no", (), ("m",), ("o",), ("o", "n"), ("n", "n"), ("n", "x"), ("n", None),
                      (["n"],), (1,), ("a", "b")):
            self.assertEqual(wrong(paper=paper), "paper", paper)
        self.assertEqual(whole_paper(Pact(HANDS, NOTES, READY, ("n",))), ("m", "n"))

    def test_a_note_may_be_called_as_a_hand(self):
        pact = Pact(["a", "b"], [("b", "a", ()), ("a", "b", ("b",))], ["b", "a"], ("a",))
        self.assertEqual((hand_of(pact, "a"), notes_of(pact, "a"), ready_note(pact, "b")), ("b", ("b",), "a"))
        self.assertTrue(lies_under(pact, "b", "a"))


class UnderTest(unittest.TestCase):
    def test_the_example(self):
        pact = Pact(HANDS, NOTES, READY, PAPER)
        self.assertEqual((whole_paper(pact), key_note(pact, "b")), (("m", "n", "o"), "n"))
        self.assertEqual(key_note(pact=pact, hand="a"), "o")
        self.assertEqual([hand_of(pact, name) for name in pact.names], ["a", "b", "a", "b"])
        self.assertEqual(notes_of(pact=pact, hand="a"), ("m", "o"))
        self.assertEqual(under_of(pact=pact, note="p"), ("m", "n", "o", "p"))
        self.assertEqual(under_of(pact, "o"), ("m", "o"))
        self.assertIs(lies_under(pact=pact, one="m", other="o"), True)
        self.assertIs(lies_under(pact, "o", "m"), False)
        self.assertIs(lies_under(pact, "n", "n"), True)
        self.assertEqual(ready_note(pact, "b"), "n")

    def test_unknown_names(self):
        pact = base_pact()
        for call in (hand_of, under_of):
            self.assertEqual(raised(NoName, call, pact, "a"), "a")
            self.assertEqual(raised(NoName, call, pact, "X y"), "X y")
        for call in (notes_of, key_note, ready_note):
            self.assertEqual(raised(NoName, call, pact, "m"), "m")
            self.assertEqual(raised(NoName, call, pact, ""), "")
        self.assertEqual(raised(NoName, lies_under, pact, "m", "b"), "b")
        self.assertEqual(raised(NoName, lies_under, pact, "b", "a"), "b")

    def test_against_the_words(self):
        for pact in small_pacts(1, 150, hands=(2, 4), notes=(2, 9)):
            under, owners = naive_under(pact.notes), owners_of(pact)
            whole = naive_whole(pact)
            self.assertEqual(set(whole_paper(pact)), whole)
            for name in pact.names:
                self.assertEqual(under_of(pact, name), tuple(sorted(under[name])))
                self.assertEqual(hand_of(pact, name), owners[name])
                for other in pact.names:
                    self.assertIs(lies_under(pact, name, other), name in under[other])
            for at, hand in enumerate(pact.hands):
                row = tuple(name for name in pact.names if owners[name] == hand)
                self.assertEqual(notes_of(pact, hand), row)
                self.assertEqual(key_note(pact, hand), [name for name in row if name in whole][-1])
                self.assertEqual(ready_note(pact, hand), pact.ready[at])

    def test_what_stands_in_italics(self):
        for pact in small_pacts(2, 60, hands=(2, 4), notes=(2, 8)):
            for one in pact.names:
                for other in pact.names:
                    both = lies_under(pact, one, other) and lies_under(pact, other, one)
                    self.assertEqual(both, one == other)
                    if lies_under(pact, one, other):
                        self.assertLessEqual(pact.names.index(one), pact.names.index(other))
                        self.assertLessEqual(set(under_of(pact, one)), set(under_of(pact, other)))
            for hand in pact.hands:
                row = notes_of(pact, hand)
                self.assertTrue(all(lies_under(pact, one, other) for one, other in zip(row, row[1:])))
            keys = set().union(*(under_of(pact, key_note(pact, hand)) for hand in pact.hands))
            self.assertEqual(keys, set(whole_paper(pact)))

    def test_calls_between_change_nothing(self):
        one = Pact(HANDS, NOTES, READY, PAPER)
        other = Pact(HANDS, NOTES[:1] + [("n", "b", ()), ("o", "a", ("n",)), ("p", "b", ())], READY, ("o", "p"))
        first = (under_of(one, "o"), lies_under(one, "m", "n"), key_note(one, "b"))
        between = (under_of(other, "o"), lies_under(other, "m", "n"), key_note(other, "b"))
        self.assertEqual(between, (("m", "n", "o"), False, "p"))
        self.assertEqual((under_of(one, "o"), lies_under(one, "m", "n"), key_note(one, "b")), first)

    def test_forty_notes(self):
        pact = chain_pact(["b", "a"], 40)
        self.assertEqual(under_of(pact, note_names(40)[-1]), note_names(40))
        self.assertEqual(key_note(pact, "a"), note_names(40)[-1])


if __name__ == "__main__":
    unittest.main()
