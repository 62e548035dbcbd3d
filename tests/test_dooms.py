"""[30] and [31]: rows that fail, runs that trap every rule, coins, and how deep a rule must look."""

import itertools
import random
import unittest

from boundorvoid.climbs import row_holds, row_moments
from boundorvoid.court import Just, Torn, court, court_rows
from boundorvoid.dooms import coin_depths, depth_run, doom_run, failing_part, fewest_wrong, least_depth, least_trap
from boundorvoid.dooms import row_trap, trap_holds, wrong_runs
from boundorvoid.errors import InvalidFamily, InvalidRow, InvalidRun, InvalidSize, NoName, Refused
from boundorvoid.families import in_family, sized_family
from boundorvoid.pacts import Pact, lies_under, ready_note, whole_paper
from boundorvoid.rules import deep_answer, plain_answer
from boundorvoid.runs import need_run, run_heard, run_liars
from boundorvoid.wrongs import good_answers, replay, run_wrongs

from tests.helpers import all_families, all_rows, all_runs, base_pact, chain_pact, close_pacts, loose_pact, raised
from tests.helpers import random_run, random_rule, small_pacts

ONE_LIES = (("a",), ("b",))


def torn_pact():
    return base_pact("n")


def deep(pact, depth):
    return lambda *told: deep_answer(pact, *told, depth=depth)


def is_wrong(pact, run, rule):
    return run_wrongs(pact, run, [answer for _, _, answer in replay(pact, run, rule)]) != ()


def failing(seed, many, **sizes):
    """Pacts with a hand and a row that fails from it."""
    rng = random.Random(seed)
    for pact in small_pacts(seed, many, **sizes) + close_pacts(seed, many * 2, **sizes):
        found = [(hand, row) for row in all_rows(pact.hands) for hand in pact.hands if not row_holds(pact, hand, row)]
        for hand, row in rng.sample(found, min(len(found), 6)):
            yield pact, hand, row


def naive_part(pact, hand, row):
    return [row[:many] for many in range(1, len(row) + 1) if not row_holds(pact, hand, row[:many])][0]


def naive_trap(pact, hand, row):
    part = naive_part(pact, hand, row)
    events, sent, ends = [], set(), []
    for name, moment in zip(part, row_moments(pact, hand, part)):
        events += [("send", note) for note in pact.names if note in moment and note not in sent]
        sent |= set(moment)
        events.append(("ask", name, moment))
        ends.append(tuple(events))
    rest = [("send", note) for note in pact.names if note in whole_paper(pact) and note not in sent]
    return tuple(ends[1:]) + (tuple(events + rest),)


class TrapTest(unittest.TestCase):
    def test_example(self):
        pact = torn_pact()
        self.assertEqual(failing_part(pact, "b", ("a", "b")), ("a",))
        pact = Pact(("a", "b"), pact.notes, pact.ready, ("n", "o"))
        self.assertEqual(failing_part(pact, "b", ("a", "b")), ("a", "b"))
        self.assertIsNone(failing_part(pact, "b", ("a",)))
        self.assertIsNone(failing_part(pact=pact, hand="a", row=("b", "a")))
        head = (("send", "m"), ("ask", "a", ("m",)), ("send", "n"), ("ask", "b", ("m", "n")))
        self.assertEqual(row_trap(pact=pact, hand="b", row=("a", "b")), (head, head + (("send", "o"),)))

    def test_a_row_of_one_hand(self):
        pact = torn_pact()
        run = (("send", "m"), ("ask", "a", ("m",)), ("send", "n"))
        self.assertEqual(row_trap(pact, "b", ("a",)), (run,))
        for answer in ("bound", "void"):
            self.assertEqual(doom_run(pact, "b", ("a", "b"), lambda *told: answer), run)

    def test_against_the_words(self):
        sizes = []
        for pact, hand, row in failing(210, 60, hands=(2, 4), notes=(4, 9)):
            part = naive_part(pact, hand, row)
            self.assertEqual(failing_part(pact, hand, row), part)
            trap = row_trap(pact, hand, row)
            self.assertEqual(trap, naive_trap(pact, hand, row))
            self.assertEqual(len(trap), len(part))
            sizes.append(len(part))
            for at, run in enumerate(trap):
                self.assertIs(need_run(pact, run), run)
                liars = part[:at] if at + 1 < len(part) else part[:-1]
                self.assertEqual(run_liars(pact, run), tuple(sorted(liars)))
            for answers in itertools.product(("bound", "void"), repeat=len(part)):
                self.assertTrue([run for run in trap if run_wrongs(pact, run, answers[:len(run_heard(pact, run))])])
        self.assertGreater(min(map(sizes.count, (1, 2, 3))), 10)

    def test_rows_that_hold(self):
        for pact in small_pacts(211, 20) + close_pacts(211, 30):
            for row in all_rows(pact.hands):
                for hand in pact.hands:
                    if all(row_holds(pact, hand, row[:many]) for many in range(1, len(row) + 1)):
                        self.assertIsNone(failing_part(pact, hand, row))
                        self.assertEqual(raised(Refused, row_trap, pact, hand, row), "holds")
                        self.assertEqual(raised(Refused, doom_run, pact, hand, row, lambda *told: None), "holds")

    def test_errors(self):
        pact = torn_pact()
        for call, more in ((failing_part, ()), (row_trap, ()), (doom_run, (lambda *told: None,))):
            self.assertEqual(raised(NoName, call, pact, "c", None, *more), "c")
            for row, at in ((None, -1), ((), -1), (["a"], -1), (("a", "c"), 1), (("b", "b"), 1), ((1,), 0)):
                self.assertEqual(raised(InvalidRow, call, pact, "a", row, *more), at)

    def test_forty_notes_and_six_hands(self):
        hands = tuple("abcdef")
        pact = chain_pact(hands, 40, paper=("ak",))
        row = court(pact, (hands,)).row
        trap = least_trap(pact, (hands,))
        self.assertEqual(len(trap), len(row))
        self.assertTrue(trap_holds(pact, (hands,), trap))
        self.assertEqual(fewest_wrong(pact, trap + trap), 2)


class DoomRunTest(unittest.TestCase):
    def test_every_rule_is_wrong_in_it(self):
        rng = random.Random(212)
        for pact, hand, row in failing(212, 40, hands=(2, 4), notes=(4, 9)):
            rule = random_rule(rng.random())
            run = doom_run(pact, hand, row, rule)
            self.assertIn(run, row_trap(pact, hand, row))
            self.assertTrue(is_wrong(pact, run, rule))

    def test_which_run_it_is(self):
        for pact, hand, row in failing(213, 40, hands=(2, 4), notes=(4, 9)):
            trap = row_trap(pact, hand, row)
            for first in range(len(trap) + 1):
                run = doom_run(pact, hand, row, lambda history, *told: "bound" if len(history) == first else "void")
                expected = trap[-1] if first == len(trap) else trap[max(first - 1, 0)]
                self.assertEqual(run, expected)

    def test_what_the_rule_is_called_with(self):
        for pact, hand, row in failing(214, 30, hands=(2, 4), notes=(4, 9)):
            part = naive_part(pact, hand, row)
            asks = tuple(zip(part, row_moments(pact, hand, part)))
            for first in range(len(part) + 1):
                calls = []

                def rule(history, name, moment):
                    calls.append((history, name, moment))
                    return "bound" if len(history) == first else "void"

                doom_run(pact, hand, row, rule)
                heads = [tuple((*ask, "void") for ask in asks[:at]) for at in range(len(asks))]
                self.assertEqual(calls, [(head, *ask) for head, ask in zip(heads, asks)][:first + 1])

    def test_what_is_no_answer(self):
        pact = Pact(("a", "b"), torn_pact().notes, ("m", "n"), ("n", "o"))
        for wrong in (None, True, "", "maybe", ("bound",), ["void"], 0, pact):
            for told in ([wrong], ["void", wrong]):
                answers = list(told)
                call = lambda history, hand, moment: answers.pop(0)
                self.assertEqual(raised(Refused, doom_run, pact, "b", ("a", "b"), call), "answer")
                self.assertEqual(answers, [])
        left = ["bound", None]
        doom_run(pact, "b", ("a", "b"), lambda *told: left.pop(0))
        self.assertEqual(left, [None])


class WrongRunsTest(unittest.TestCase):
    def test_against_the_words(self):
        rng, wrong = random.Random(215), 0
        for pact in small_pacts(215, 40) + close_pacts(215, 60):
            runs = [random_run(rng, pact) for _ in range(rng.randrange(6))]
            runs += runs[:2]
            for rule in (random_rule(rng.random()), lambda *told: plain_answer(pact, *told)):
                expected = tuple(at for at, run in enumerate(runs) if is_wrong(pact, run, rule))
                self.assertEqual(wrong_runs(pact, rng.choice((list, tuple))(runs), rule), expected)
                wrong += len(expected)
        self.assertGreater(wrong, 60)
        self.assertEqual(wrong_runs(base_pact(), [], None), ())

    def test_equal_runs_count_each(self):
        pact = torn_pact()
        run = row_trap(pact, "b", ("a",))[0]
        self.assertEqual(wrong_runs(pact, (run, (), run), lambda *told: "void"), (0, 2))
        self.assertEqual(wrong_runs(pact=pact, runs=[run], rule=lambda *told: "bound"), (0,))
        self.assertEqual(fewest_wrong(pact, (run, (), run)), 2)
        self.assertEqual(fewest_wrong(pact=pact, runs=[()]), 0)
        self.assertEqual(fewest_wrong(pact, ()), 0)

    def test_errors_and_calls(self):
        pact = base_pact()
        run = (("send", "m"), ("ask", "a", ("m",)), ("ask", "a", ()), ("ask", "b", ()))
        for call, more in ((wrong_runs, (None,)), (fewest_wrong, ())):
            self.assertEqual(raised(InvalidRun, call, pact, [run, run[1:], None], *more), 0)
            self.assertEqual(raised(InvalidRun, call, pact, (run, run + run[:1]), *more), 4)
            self.assertEqual(raised(InvalidRun, call, pact, (run, list(run)), *more), -1)
            self.assertEqual(raised(InvalidRun, call, pact, (run, None), *more), -1)
        calls = []

        def rule(history, hand, moment):
            calls.append((history, hand, moment))
            return "void" if len(calls) < 3 else None

        self.assertEqual(raised(Refused, wrong_runs, pact, [run, run, run], rule), "answer")
        first = ((), "a", ("m",))
        self.assertEqual(calls, [first, ((("a", ("m",), "void"),), "b", ()), first])

    def test_what_sounds_alike(self):
        pact = Pact(("a", "b"), torn_pact().notes, ("m", "n"), ("n", "o"))
        one, other = least_trap(pact, ONE_LIES)
        # The same asks at other places sound alike.
        moved = (("send", "m"), ("send", "n"), ("ask", "a", ("m",)), ("ask", "b", ("m", "n")), ("send", "o"))
        self.assertEqual(run_heard(pact, moved), run_heard(pact, other))
        self.assertEqual(fewest_wrong(pact, (one, moved)), 1)
        self.assertEqual(fewest_wrong(pact, (moved, one, moved, one, other)), 2)
        # The same moment shown by another hand does not.
        notes = (("m", "a", ()), ("n", "b", ()), ("o", "c", ()), ("x", "a", ()))
        pact = Pact(("a", "b", "c"), notes, ("x", "n", "o"), ("m", "n", "o"))
        sent = tuple(("send", note) for note in "mno")
        honest = sent + (("send", "x"), ("ask", "c", ("m", "n", "o")))
        liar = sent + (("ask", "b", ("m", "n", "o")), ("ask", "b", ()))
        self.assertEqual(good_answers(pact, honest), (("bound",),))
        self.assertEqual(good_answers(pact, liar), (("void",),))
        self.assertEqual(fewest_wrong(pact, (honest, liar)), 0)

    def test_the_fewest_over_all_rules(self):
        rng, found = random.Random(216), []
        for pact in small_pacts(216, 120, notes=(3, 6)) + close_pacts(216, 60, notes=(4, 6)):
            runs = [random_run(rng, pact, most=9) for _ in range(rng.randrange(5))]
            for hand, row in [(hand, row) for row in all_rows(pact.hands) for hand in pact.hands][:12]:
                if not row_holds(pact, hand, row) and rng.random() < 0.4:
                    runs += row_trap(pact, hand, row)
            runs = rng.sample(runs, min(len(runs), 6))
            expected = slow_fewest(pact, runs)
            if expected is not None:
                self.assertEqual(fewest_wrong(pact, runs), expected)
                found.append(expected)
        self.assertGreater(min(map(found.count, (0, 1, 2))), 8)


def slow_fewest(pact, runs):
    """The least number, all rules being tried; None if there are too many that differ on these runs."""
    places = set()
    for run in runs:
        heard = run_heard(pact, run)
        for answers in itertools.product(("bound", "void"), repeat=len(heard)):
            for at, (hand, moment) in enumerate(heard):
                told = tuple((*ask, answer) for ask, answer in zip(heard[:at], answers))
                places.add((told, hand, moment))
    if len(places) > 10:
        return None
    places = sorted(places)
    least = len(runs)
    for answers in itertools.product(("bound", "void"), repeat=len(places)):
        rule = dict(zip(places, answers))
        least = min(least, sum(is_wrong(pact, run, lambda *told: rule[told]) for run in runs))
    return least


class FamilyTrapTest(unittest.TestCase):
    def tried(self, seed, many, **sizes):
        rng = random.Random(seed)
        for pact in small_pacts(seed, many, **sizes) + close_pacts(seed, many * 2, **sizes):
            for family in rng.sample(all_families(pact.hands), 2):
                yield rng, pact, family, court(pact, family)

    def test_least_trap(self):
        torns = 0
        for rng, pact, family, found in self.tried(217, 40, hands=(2, 3), notes=(4, 9)):
            trap = least_trap(pact, family)
            if isinstance(found, Just):
                self.assertIsNone(trap)
                self.assertEqual(coin_depths(pact, family), (None,))
                continue
            torns += 1
            size = len(found.row)
            self.assertEqual(trap, row_trap(pact, found.hand, found.row))
            self.assertIs(trap_holds(pact, family, trap), True)
            self.assertEqual(len(trap), size)
            self.assertEqual(max(len(run_heard(pact, run)) for run in trap), size)
            self.assertEqual(max(len(run_liars(pact, run)) for run in trap), size - 1)
            self.assertEqual(coin_depths(pact, family), tuple(range(1, size)) + (None,))
            for run in trap:
                # With one run left out it is none.
                rest = tuple(other for other in trap if other != run)
                self.assertIs(trap_holds(pact, family, rest), False)
        self.assertGreater(torns, 60)

    def test_fewer_runs_are_no_trap(self):
        many = 0
        for rng, pact, family, found in self.tried(218, 30, hands=(2, 3), notes=(4, 7)):
            if isinstance(found, Just) or len(found.row) == 1:
                continue
            runs = [random_run(rng, pact, most=12) for _ in range(30)]
            runs = [run for run in runs if in_family(family, run_liars(pact, run))] + list(least_trap(pact, family))
            for run in runs:
                self.assertTrue(good_answers(pact, run))
            if len(found.row) > 2:
                for pair in itertools.combinations(runs, 2):
                    self.assertEqual(fewest_wrong(pact, pair), 0)
                    many += 1
        self.assertGreater(many, 100)

    def test_coins(self):
        wrong = 0
        for rng, pact, family, found in self.tried(219, 40, hands=(2, 4), notes=(4, 9)):
            depths = coin_depths(pact, family)
            runs = [random_run(rng, pact, most=14) for _ in range(6)]
            runs = [run for run in runs if in_family(family, run_liars(pact, run))]
            runs += least_trap(pact, family) or ()
            for run in runs:
                many = sum(is_wrong(pact, run, deep(pact, depth)) for depth in depths)
                self.assertLessEqual(many, 1)
                wrong += many
            if isinstance(found, Torn):
                self.assertLessEqual(len(found.row) * fewest_wrong(pact, runs), len(runs))
        self.assertGreater(wrong, 50)

    def test_values_that_are_no_traps(self):
        pact = torn_pact()
        trap = least_trap(pact, ONE_LIES)
        self.assertIs(trap_holds(pact, ONE_LIES, trap), True)
        self.assertIs(trap_holds(pact, ONE_LIES, trap + ((),) + trap), True)
        for value in (None, (), ((),), list(trap), trap[0], (list(trap[0]),), trap + (None,), True, "trap", pact,
                      (trap[0] + (("send", "m"),),), (tuple(map(list, trap[0])),), (trap,), 1):
            self.assertIs(trap_holds(pact, ONE_LIES, value), False)
        pact = Pact(("a", "b"), pact.notes, pact.ready, ("n", "o"))
        trap = least_trap(pact, ONE_LIES)
        self.assertIs(trap_holds(pact=pact, family=(("a",),), value=trap[::-1]), True)
        self.assertIs(trap_holds(pact, (("b",),), trap), False)
        self.assertIs(trap_holds(pact, ONE_LIES, trap[:1]), False)
        for call, more in ((trap_holds, (None,)), (least_trap, ()), (coin_depths, ()), (least_depth, ()),
                           (depth_run, (True,))):
            self.assertEqual(raised(InvalidFamily, call, pact, (), *more), -1)
            self.assertEqual(raised(InvalidFamily, call, pact, (("a",), ("c",)), *more), 1)

    def test_long_runs_that_came_from_here(self):
        hands = tuple("abcdef")
        pact = loose_pact((7, 7, 7, 7, 6, 6))
        trap = least_trap(pact, (hands,))
        long = tuple(("send", note) for note in pact.names) + tuple(
            ("ask", hand, ()) for hand in hands for _ in range(18))
        self.assertGreater(len(long), 100)
        self.assertTrue(trap_holds(pact, (hands,), trap + (long,) + trap[::-1]))
        self.assertEqual(wrong_runs(pact, trap + (long,), lambda *told: "void"), tuple(range(len(trap))))


class DepthTest(unittest.TestCase):
    def test_exactly_the_depths_from_the_least_on(self):
        kinds = []
        for pact in small_pacts(220, 22, hands=(2, 2), notes=(3, 5), density=(0.5, 0.8)):
            runs = [(run_liars(pact, run), run) for run in all_runs(pact)]
            wrong = {depth: [liars for liars, run in runs if is_wrong(pact, run, deep(pact, depth))]
                     for depth in (0, 1, 2, 3, None)}
            for family in all_families(pact.hands):
                least = least_depth(pact, family)
                kinds.append(least)
                self.assertEqual(least is None, isinstance(court(pact, family), Torn))
                if least is not None:
                    for depth, lots in wrong.items():
                        right = not any(in_family(family, liars) for liars in lots)
                        self.assertEqual(right, depth is None or depth >= least)
        self.assertGreater(min(map(kinds.count, (None, 2))), 4)

    def test_wrong_runs_for_lower_depths(self):
        kinds = []
        pacts = [chain_pact(tuple(hands), 40) for hands in ("abcdef", "dacb", "cab", "ba")]
        pacts += [pact for pact in close_pacts(221, 150, hands=(3, 4), notes=(8, 14))]
        for pact in pacts:
            families = all_families(pact.hands) if len(pact.hands) < 4 else [
                sized_family(tuple(sorted(pact.hands)), many) for many in range(len(pact.hands) + 1)]
            families += [((hand,),) for hand in pact.hands] + [(tuple(sorted(pact.hands)[1:]),)]
            families.append((tuple(sorted(pact.hands)[:1]), tuple(sorted(pact.hands)[1:])))
            for family in families:
                if isinstance(court(pact, family), Just):
                    kinds.append(least_depth(pact, family))
                    self.check_depths(pact, family, kinds[-1])
        self.assertGreater(min(map(kinds.count, (2, 3, 4))), 5)
        self.assertIn(6, kinds)

    def check_depths(self, pact, family, least):
        for depth in list(range(len(pact.hands) + 2)) + [None]:
            run = depth_run(pact, family, depth)
            if depth is None or depth >= least:
                self.assertIsNone(run)
            else:
                self.assertTrue(in_family(family, run_liars(pact, need_run(pact, run))))
                self.assertTrue(is_wrong(pact, run, deep(pact, depth)))

    def test_the_least_by_its_words(self):
        pact = chain_pact(tuple("abc"), 30)
        tops = [hand for hand in pact.hands
                if all(lies_under(pact, ready_note(pact, other), ready_note(pact, hand)) for other in pact.hands)]
        self.assertEqual(tops, ["c"])
        self.assertEqual(least_depth(pact, (("c",),)), 2)
        self.assertEqual(least_depth(pact, (("a",),)), 3)
        self.assertEqual(least_depth(pact, (("a",), ("c",))), 3)
        self.assertEqual(least_depth(pact, ((),)), 2)
        self.assertEqual(least_depth(pact=pact, family=(("a", "b", "c"),)), 3)
        self.assertEqual(least_depth(chain_pact(tuple("cba"), 30), (("a",),)), 2)
        self.assertEqual(least_depth(chain_pact(tuple("cba"), 30), (("a",), ("b",))), 3)
        pact = chain_pact(tuple("abcdef"), 40)
        self.assertEqual(least_depth(pact, (("a", "b"), ("c",))), 4)
        self.assertEqual([least_depth(pact, sized_family(tuple("abcdef"), many)) for many in range(6)],
                         [2, 3, 4, 5, 6, 6])

    def test_torn_pacts(self):
        many = 0
        for pact in small_pacts(222, 40, notes=(4, 8)):
            for family in all_families(pact.hands)[::3]:
                if isinstance(court(pact, family), Torn):
                    for depth in (0, 1, 2, 3, 7, None):
                        run = depth_run(pact=pact, family=family, depth=depth)
                        self.assertTrue(in_family(family, run_liars(pact, need_run(pact, run))))
                        self.assertTrue(is_wrong(pact, run, deep(pact, depth)))
                        many += 1
        self.assertGreater(many, 50)

    def test_wrong_depths(self):
        for pact in (base_pact(), torn_pact()):
            for depth in (True, False, -1, "2", (), [2], pact, "depth"):
                self.assertEqual(raised(InvalidSize, depth_run, pact, ONE_LIES, depth), "depth")

    def test_rows_asked_are_those_of_the_court(self):
        for pact in small_pacts(223, 20):
            for family in all_families(pact.hands)[::4]:
                found = court(pact, family)
                if isinstance(found, Torn):
                    self.assertIn(found.row, court_rows(pact, family))


if __name__ == "__main__":
    unittest.main()
