"""The examples of the document."""

import doctest
import pathlib
import unittest

NOTES = """
    >>> from boundorvoid.forms import bare_paper, bare_waits, telling_count
    >>> from boundorvoid.heights import clock_fault, clocks_of, last_note, next_levels, next_note
    >>> from boundorvoid.pacts import Pact, key_note, whole_paper
    >>> notes = [("m", "a", ()), ("n", "b", ("m",)), ("o", "a", ()), ("p", "b", ("o",))]
    >>> pact = Pact(["a", "b"], notes, ["m", "n"], ("n", "o"))
    >>> whole_paper(pact), key_note(pact, "b")
    (('m', 'n', 'o'), 'n')
    >>> next_note(pact, "b", "o"), next_note(pact, "a", "n"), last_note(pact, "a", "p")
    ('p', None, 'o')
    >>> next_levels(pact, "n"), clocks_of(pact)
    ((2, 0), (((1, 0), (2, 0)), ((1, 1), (2, 2))))
    >>> clock_fault((((1, 1),), ((1, 1),)))
    (1, 0)
    >>> bare_waits(pact, "p"), bare_waits(pact, "o"), bare_paper(pact), telling_count(pact)
    (('o',), (), ('n', 'o'), 16)
"""

OVERVIEW = """
    >>> from boundorvoid.texts import read_pact
    >>> from boundorvoid.court import court
    >>> rows = ["hands a b", "note m a", "note n b m", "note o a n"]
    >>> pact = read_pact("\\n".join(rows + ["ready m n", "paper n o"]))
    >>> torn = court(pact, (("a",), ("b",)))
    >>> torn.hand, torn.row
    ('b', ('a', 'b'))
"""

RUNS = """
    >>> from boundorvoid.runs import filling_liars, run_heard, run_liars
    >>> from boundorvoid.texts import read_pact
    >>> from boundorvoid.wrongs import good_answers, run_wrongs
    >>> rows = ["hands a b", "note m a", "note n b m", "note o a n"]
    >>> pact = read_pact("\\n".join(rows + ["ready m n", "paper n o"]))
    >>> run = (("send", "m"), ("ask", "a", ("m",)), ("send", "n"), ("ask", "b", ("m", "n")), ("send", "o"))
    >>> run_liars(pact, run), filling_liars(pact, run_heard(pact, run))
    (('a',), ('a',))
    >>> run_wrongs(pact, run, ("void", "void")), good_answers(pact, run), good_answers(pact, run[:-1])
    ((('b', 4, 'paper'),), (('void', 'bound'),), (('void', 'void'),))
"""

COURT = """
    >>> from boundorvoid.court import court, least_paper, safe_notes
    >>> from boundorvoid.texts import read_pact
    >>> rows = ["hands a b", "note m a", "note n b m", "note o a n", "note p b o"]
    >>> pact = read_pact("\\n".join(rows + ["ready m n", "paper o p"]))
    >>> court(pact, (("a",), ("b",))).table
    ((('a',), 'a', 1), (('b',), 'b', 0), (('a', 'b'), 'b', 1), (('a', 'b'), 'a', 1))
    >>> safe_notes(pact, (("a",), ("b",))), least_paper(pact, ((),))
    (('m', 'n'), ('m', 'n', 'o'))
"""

DOOMS = """
    >>> from boundorvoid.texts import read_pact
    >>> from boundorvoid.dooms import coin_depths, least_trap
    >>> from boundorvoid.rules import ask_chain, deep_answer, plain_answer
    >>> rows = ["hands a b", "note m a", "note n b m", "note o a n"]
    >>> pact = read_pact("\\n".join(rows + ["ready m n", "paper n o"]))
    >>> family, history = (("a",), ("b",)), (("a", ("m",), "void"),)
    >>> ask_chain(pact, history, "b", ("m", "n")), plain_answer(pact, history, "b", ("m", "n"))
    (('b', ('a', 'b')), 'void')
    >>> coin_depths(pact, family), deep_answer(pact, history, "b", ("m", "n"), depth=1)
    ((1, None), 'bound')
    >>> [run[3:] for run in least_trap(pact, family)]
    [(('ask', 'b', ('m', 'n')),), (('ask', 'b', ('m', 'n')), ('send', 'o'))]
"""

BOOKED = """
    >>> from boundorvoid.texts import read_pact
    >>> from boundorvoid.booked import book_entry
    >>> from boundorvoid.prospects import bound_bars, prospect
    >>> from boundorvoid.rightly import first_limits, right_answers
    >>> rows = ["hands a b", "note m a", "note n b m", "note o a n", "note p b o", "ready m n", "paper p"]
    >>> pact, family, history = read_pact("\\n".join(rows)), (("a",), ("b",)), (("a", ("m",), "void"),)
    >>> bound_bars(pact, history), prospect(pact, family, history).table
    ((('a', 'parted', 'o'), ('b', 'unready', 'n')), ((('b',), 'b', 1),))
    >>> [right_answers(pact, family, history, "b", ("m", "n", "o", "p")[:many]) for many in (2, 3, 4)]
    [('void',), ('bound', 'void'), ('bound',)]
    >>> first_limits(pact, family), book_entry(pact, ()), book_entry(pact, (("a", ("m",)),))
    ((1, 0), ('awaited', ('n',), (1, 1)), ('awaited', ('o',), ()))
"""

BORNE = """
    >>> from boundorvoid.borne import failing_rows, greatest_family, least_barred, trusted_lots
    >>> from boundorvoid.kept import kept_lots, torn_in
    >>> from boundorvoid.texts import read_pact
    >>> rows = ["hands a b c", "note m a", "note n b m", "note o c n", "note p a o", "note q b p"]
    >>> pact = read_pact("\\n".join(rows + ["ready m n o", "paper q"]))
    >>> failing_rows(pact)[:3]
    (('b', ('a', 'c')), ('c', ('a', 'c')), ('c', ('b', 'a')))
    >>> greatest_family(pact), least_barred(pact), trusted_lots(pact)
    ((('c',),), (('a',), ('b',)), (('a', 'b'),))
    >>> family = (("a",), ("b",), ("c",))
    >>> kept_lots(pact, family), torn_in(pact, family, ("a", "c")).row
    ((('c',), ('a', 'b')), ('a', 'c'))
"""

TURNS = """
    >>> from boundorvoid.shortest import next_writers
    >>> from boundorvoid.tallies import turns_at, turns_count
    >>> from boundorvoid.wishes import family_wishes, wants_behind
    >>> three, one_lies = ("a", "b", "c"), (("a",), ("b",), ("c",))
    >>> turns_count(three, one_lies, 7), turns_at(three, one_lies, 7, 0)
    (24, ('a', 'b', 'c', 'a', 'b', 'a', 'c'))
    >>> next_writers(three, one_lies, ("a", "b", "c", "b"))
    ('a',)
    >>> wants_behind(family_wishes(three, one_lies), ("c", "b"))
    (('a', 'b'), ('a', 'c'))
"""

MENDS = """
    >>> from boundorvoid.mends import row_waits, turns_behind
    >>> from boundorvoid.texts import read_pact
    >>> loose = read_pact("hands a b\\nnote m a\\nnote n b\\nready m n\\npaper m n")
    >>> turns_behind(loose, (("a",), ("b",))), row_waits(loose, "a", ("b",)), row_waits(loose, "a", ("b", "a"))
    (('a', 'b', 'a'), (('n', 'm'),), None)
"""

BEATS = """
    >>> from boundorvoid.rounds import beats_front
    >>> beats_front(("a", "b", "c"), (("a", "b", "c"),))
    ((4, 12), (5, 11), (6, 9))
"""

OFFICES = """
    >>> from boundorvoid.offices import deaf_pair, sized_offices
    >>> deaf_pair(sized_offices(("x", "y", "z"), ("a", "b"), 2, 1))
    ('a', ('x', 'y'), 'b', ('x', 'z'), ('x',))
"""

POWER = """
    >>> from boundorvoid.power import choice_stretch, choosing_lots, turning_note, voiding_way
    >>> from boundorvoid.texts import read_pact
    >>> rows = ["hands a b", "note m a", "note n b m", "note o a n", "note p b o"]
    >>> pact = read_pact("\\n".join(rows + ["ready m n", "paper p"]))
    >>> family = (("a",), ("b",))
    >>> turning_note(pact, ("a",), "a"), choosing_lots(pact, family, ("m",))
    ('o', (('b',),))
    >>> choice_stretch(pact, family, ("m", "n", "o", "p")), voiding_way(pact, ("b",), ("m",))
    ((1, 3), (('ask', 'b', ()),))
"""

AUDITS = """
    >>> from boundorvoid.texts import read_pact
    >>> from boundorvoid.audits import blame, blaming_lots, excusing_family, found_bounds, log_liars
    >>> from boundorvoid.receipts import unlogged_asks, receipt_orders
    >>> rows = ["hands a b", "note m a", "note n b m", "note o a n", "note p b o", "ready m n", "paper p"]
    >>> pact, log = read_pact("\\n".join(rows)), (("a", ("m",), "void"), ("b", ("m", "n", "o", "p"), "void"))
    >>> log_liars(pact, log, ()), found_bounds(pact, (("b",),), log[:1])
    (('a',), (('m', 'n'),))
    >>> blaming_lots(pact, log), excusing_family(pact, log), blame(pact, (("a",),), log, ())
    ((('a',),), (('b',),), ('notary', 1))
    >>> receipt_orders(pact, log), unlogged_asks(pact, (), "b", ("m", "n"))
    (0, (0, (('a', ('m',)),)))
"""

CORES = """
    >>> from boundorvoid.alike import longest_walk, rows_apart, walk_apart
    >>> from boundorvoid.cores import core_table, turnings
    >>> from boundorvoid.texts import read_pact
    >>> rows = ["hands a b", "note m a", "note n b m", "note o a n", "note p b o", "note q a p", "ready m n"]
    >>> less, more = read_pact("\\n".join(rows + ["paper p"])), read_pact("\\n".join(rows + ["paper q"]))
    >>> longest_walk(less, "a"), rows_apart(less, more), walk_apart(less, more)
    (('a', 'b', 'a', 'b'), None, ('b', ('a', 'b', 'a')))
    >>> core_table(less), turnings(less)
    ((('a', 'b'), (0, 0), (((0, 0), (1, 1)), ((1, 0), (2, 1)))), (('a', 'b'),))
"""

DESK = """
    >>> from boundorvoid.desk import Desk
    >>> desk, pact = Desk(), "pact hands a b ; note m a ; note n b m ; note o a n ; note p b o ; ready m n ; paper p"
    >>> [desk.say(word) for word in (pact, "family a ; b", "ask a m", "bound b m n o", "undo", "log")]
    ['just', 'just', 'void', 'bound', 'done', 'void a m']
"""


class ExamplesTest(unittest.TestCase):
    def check(self, name, text):
        test = doctest.DocTestParser().get_doctest(text, {}, name, None, 0)
        told = []
        found = doctest.DocTestRunner(verbose=False).run(test, out=told.append)
        self.assertEqual(found.failed, 0, "".join(told))
        self.assertGreater(found.attempted, 0)

    def test_notes(self):
        self.check("notes", NOTES)

    def test_overview(self):
        self.check("overview", OVERVIEW)

    def test_runs(self):
        self.check("runs", RUNS)

    def test_court(self):
        self.check("court", COURT)

    def test_dooms(self):
        self.check("dooms", DOOMS)

    def test_booked(self):
        self.check("booked", BOOKED)

    def test_borne(self):
        self.check("borne", BORNE)

    def test_turns(self):
        self.check("turns", TURNS)

    def test_mends(self):
        self.check("mends", MENDS)

    def test_beats(self):
        self.check("beats", BEATS)

    def test_offices(self):
        self.check("offices", OFFICES)

    def test_power(self):
        self.check("power", POWER)

    def test_audits(self):
        self.check("audits", AUDITS)

    def test_cores(self):
        self.check("cores", CORES)

    def test_desk(self):
        self.check("desk", DESK)

    def test_readme(self):
        readme = pathlib.Path(__file__).resolve().parent.parent / "README.md"
        self.check("readme", readme.read_text())


if __name__ == "__main__":
    unittest.main()
