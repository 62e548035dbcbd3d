"""[11]: pacts as texts."""

import unittest

from boundorvoid.errors import InvalidPact, InvalidText
from boundorvoid.pacts import Pact, whole_paper
from boundorvoid.texts import pact_text, read_pact

from tests.helpers import base_pact, chain_pact, loose_pact, note_names, raised, small_pacts

LINES = ["hands a b", "note m a", "note n b m", "note o a n", "note p b o", "ready m n", "paper n o"]


def fault(lines):
    text = lines if isinstance(lines, str) else "\n".join(lines)
    return raised(InvalidText, read_pact, text)


def changed(at, line):
    return fault(LINES[:at] + [line] + LINES[at + 1:])


class TextsTest(unittest.TestCase):
    def test_the_text(self):
        pact = read_pact("\n".join(LINES))
        self.assertEqual(pact.notes[2], ("o", "a", ("n",)))
        self.assertEqual((pact.hands, pact.ready, pact.paper), (("a", "b"), ("m", "n"), ("n", "o")))
        self.assertEqual(pact_text(pact=pact), "\n".join(LINES))
        self.assertEqual(read_pact(text="\n".join(LINES)), pact)

    def test_there_and_back(self):
        for pact in small_pacts(21, 80, hands=(2, 5), notes=(2, 12)):
            self.assertEqual(read_pact(pact_text(pact)), pact)
        for pact in (chain_pact(["a", "b"], 2), chain_pact(tuple("abcdef"), 40), loose_pact((5, 4, 3, 2, 2, 2))):
            self.assertEqual(read_pact(pact_text(pact)), pact)

    def test_no_string(self):
        for value in (None, 1, True, LINES, tuple(LINES), base_pact()):
            self.assertEqual(raised(InvalidText, read_pact, value), -1)

    def test_wrong_hands(self):
        for line in ("", "hands", "hands a", "hands a a", "hands a b c d e f g", "hand a b", "Hands a b", " hands a b",
                     "hands  a b", "hands a b ", "hands a  b", "hands a\tb", "hands a B", "hands a b\r", "hands a 1"):
            self.assertEqual(changed(0, line), 0, line)
        self.assertEqual(fault(""), 0)
        self.assertEqual(fault("\n"), 0)
        self.assertEqual(fault(["hands a", "note"]), 0)

    def test_wrong_notes(self):
        for line in ("note", "note ", "note n", "note n c", "note n b x", "note m b", "note N b", "note n b m ",
                     "note n b  m", "note  n b", "note n b m m", "note n b n", "note n b o", "note n b a", "note n a b"):
            self.assertEqual(changed(2, line), 2, line)
        self.assertEqual(changed(4, "note p b o n"), 4)
        self.assertEqual(changed(1, "note m b"), 5)
        # What is no note begins the lines behind the notes.
        for line in ("notes n b m", "", " note n b", "ready m n x", "paper n"):
            self.assertEqual(changed(2, line), 2, line)

    def test_wrong_ready_notes(self):
        for line in ("", "ready", "ready m", "ready m n o", "ready n m", "ready m  n", "ready m n ", "ready a b", "paper n",
                     "Ready m n", "ready x n"):
            self.assertEqual(changed(5, line), 5, line)

    def test_wrong_papers(self):
        for line in ("", "paper", "paper ", "paper o n", "paper n n", "paper m", "paper x", "paper n  o", "paper n o ",
                     "papers n o", "ready m n"):
            self.assertEqual(changed(6, line), 6, line)

    def test_missing_and_further_lines(self):
        for many in range(1, len(LINES)):
            self.assertEqual(fault(LINES[:many]), many)
        self.assertEqual(fault(LINES + [""]), 7)
        self.assertEqual(fault(LINES + ["paper n o", ""]), 7)
        self.assertEqual(fault("hands a b"), 1)
        self.assertEqual(fault(["hands a b", "ready"]), 1)
        self.assertEqual(fault(["hands a b", "note m a", "ready m m", "paper m"]), 2)
        self.assertEqual(fault(["hands a b", "note m c"]), 1)

    def test_forty_notes_and_one_more(self):
        lines = pact_text(chain_pact(["a", "b"], 40)).split("\n")
        self.assertEqual(len(read_pact("\n".join(lines)).notes), 40)
        more = lines[:41] + ["note zz a"] + lines[41:]
        self.assertEqual(fault(more), 41)
        self.assertEqual(fault(more[:42]), 41)
        self.assertEqual(raised(InvalidPact, chain_pact, ["a", "b"], 41), "notes")

    def test_the_first_wrong_line_is_told(self):
        self.assertEqual(fault(LINES[:2] + ["note n b x"] + LINES[3:6] + ["paper"]), 2)
        self.assertEqual(fault(LINES[:5] + ["ready"] + ["paper"]), 5)
        self.assertEqual(fault(["hands", "note", "ready", "paper", "x"]), 0)

    def test_the_told_words_stay(self):
        text = "\n".join(["hands b a", "note z b", "note y a z", "note x b z", "ready z y", "paper x y z"])
        pact = read_pact(text)
        self.assertEqual(pact_text(pact), text)
        self.assertEqual(pact.paper, ("x", "y", "z"))
        self.assertEqual(whole_paper(pact), ("x", "y", "z"))
        self.assertEqual(note_names(2), ("aa", "ab"))
        self.assertEqual(pact, Pact(["b", "a"], pact.notes, ["z", "y"], ("x", "y", "z")))


if __name__ == "__main__":
    unittest.main()
