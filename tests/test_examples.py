"""The examples of the document, as far as the program goes."""

import doctest
import unittest

NOTES = """
    >>> from boundorvoid.forms import bare_paper, bare_waits, telling_count
    >>> from boundorvoid.heights import clock_fault, clocks_of, last_note, next_levels, next_note
    >>> from boundorvoid.pacts import Pact, key_note, whole_paper
    >>> notes = [("m", "a", ()), ("n", "b", ("m",)), ("o", "a", ()), ("p", "b", ("o",))]
    >>> pact = Pact(["a", "b"], notes, ["m", "n"], ("n", "o"))
    >>> whole_paper(pact), key_note(pact, "b")
    (('m', 'n', 'o'), 'n')
    >>> next_note(pact, "b", "o"), next_note(pact, "a", "n"), last_note(pact, "a", "p")
    ('p', None, 'o')
    >>> next_levels(pact, "n"), clocks_of(pact)
    ((2, 0), (((1, 0), (2, 0)), ((1, 1), (2, 2))))
    >>> clock_fault((((1, 1),), ((1, 1),)))
    (1, 0)
    >>> bare_waits(pact, "p"), bare_waits(pact, "o"), bare_paper(pact), telling_count(pact)
    (('o',), (), ('n', 'o'), 16)
"""


class ExamplesTest(unittest.TestCase):
    def check(self, name, text):
        test = doctest.DocTestParser().get_doctest(text, {}, name, None, 0)
        told = []
        found = doctest.DocTestRunner(verbose=False).run(test, out=told.append)
        self.assertEqual(found.failed, 0, "".join(told))
        self.assertGreater(found.attempted, 0)

    def test_notes(self):
        self.check("notes", NOTES)


if __name__ == "__main__":
    unittest.main()
