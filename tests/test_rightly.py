"""[34] and [35]: right answers, the first wrong one, and how much may be shown at first."""

import itertools
import random
import unittest

from boundorvoid.climbs import climb_from
from boundorvoid.court import Just, court
from boundorvoid.errors import InvalidAsk, InvalidFamily, InvalidMoment, NoName, Refused
from boundorvoid.families import in_family
from boundorvoid.heights import level_of, next_level
from boundorvoid.pacts import Pact, key_note, lies_under, notes_of
from boundorvoid.prospects import Lost, Safe, bound_bars, prospect
from boundorvoid.rightly import first_limits, first_wrong_answer, right_answers, right_rows, wrong_rule_run
from boundorvoid.rules import plain_answer
from boundorvoid.runs import heard_liars, need_run, run_heard, run_liars
from boundorvoid.wrongs import replay, run_wrongs

from tests.helpers import Game, all_families, all_rows, base_pact, chain_pact, close_pacts, games, naive_moments
from tests.helpers import raised, random_asks, random_history, random_rule, random_run, rising_asks, small_pacts

ONE_LIES = (("a",), ("b",))
OTHER = Pact(("a", "b"), base_pact().notes, ("m", "n"), ("n", "o"))


def tried(seed, many, **sizes):
    rng = random.Random(seed)
    for pact in small_pacts(seed, many, **sizes) + close_pacts(seed, many * 2, **sizes):
        for family in rng.sample(all_families(pact.hands), 3):
            yield rng, pact, family


def is_safe(pact, family, history):
    return isinstance(prospect(pact, family, history), Safe)


def heard_of(history):
    return tuple(told[:2] for told in history)


class RightTest(unittest.TestCase):
    def test_against_the_words(self):
        found, refused = [], 0
        for rng, pact, family in tried(240, 50):
            history = random_history(rng, pact, rng.randrange(len(pact.hands)))
            hand = rng.choice([one for one in pact.hands if one not in [told[0] for told in history]])
            moment = rng.choice(naive_moments(pact))
            if not in_family(family, heard_liars(pact, heard_of(history) + ((hand, moment),))):
                self.assertEqual(raised(Refused, right_answers, pact, family, history, hand, moment), "liars")
                refused += 1
                continue
            right = right_answers(pact, family, history, hand, moment)
            self.assertEqual(right, tuple(answer for answer in ("bound", "void")
                                          if is_safe(pact, family, history + ((hand, moment, answer),))))
            found.append(right)
            if "bound" not in [told[2] for told in history]:
                bars = bound_bars(pact, history + ((hand, moment, "bound"),))
                self.assertEqual("bound" in right, not bars)
            if is_safe(pact, family, history):
                self.assertTrue(right)
                if "bound" in [told[2] for told in history]:
                    seen = {note for _, shown, _ in history for note in shown} | set(moment)
                    more = set(notes_of(pact, hand)) & seen - set(moment)
                    self.assertEqual(right, ("bound", "void") if more else ("bound",))
        self.assertGreater(refused, 20)
        for right in ((), ("bound",), ("void",), ("bound", "void")):
            self.assertGreater(found.count(right), 10, right)

    def test_a_lost_history_may_become_safe(self):
        pact = base_pact()
        history = (("b", ("m",), "bound"),)
        self.assertIsInstance(prospect(pact, (("b",),), history), Lost)
        self.assertEqual(right_answers(pact, (("b",),), history, "a", ("m", "n")), ("bound",))

    def test_errors_and_their_order(self):
        pact = base_pact()
        lies = (("a", (), "void"),)
        self.assertEqual(raised(InvalidFamily, right_answers, pact, None, None, "c", None), -1)
        self.assertEqual(raised(InvalidAsk, right_answers, pact, ((),), lies + lies, "c", None), 1)
        self.assertEqual(raised(NoName, right_answers, pact, ((),), lies, "c", None), "c")
        self.assertEqual(raised(InvalidMoment, right_answers, pact, ((),), lies, "a", ("n",)), 0)
        self.assertEqual(raised(Refused, right_answers, pact, ((),), lies, "a", ("m",)), "asked")
        self.assertEqual(raised(Refused, right_answers, pact, ((),), lies, "b", ("m",)), "liars")
        self.assertEqual(right_answers(pact, (("a",),), lies, "b", ("m",)), ("void",))
        self.assertEqual(right_answers(pact=pact, family=ONE_LIES, history=(), hand="b", moment=("m", "n")),
                         ("bound",))

    def test_a_rule_of_right_answers_wrongs_nobody(self):
        rng, many = random.Random(241), 0
        for pact in close_pacts(241, 200, hands=(2, 3)):
            for family in all_families(pact.hands)[::3]:
                if isinstance(court(pact, family), Just):
                    for _ in range(3):
                        run = random_run(rng, pact, most=16)
                        if in_family(family, run_liars(pact, run)):
                            history = replay(pact, run, lambda *told: rng.choice(right_answers(pact, family, *told)))
                            self.assertEqual(run_wrongs(pact, run, [told[2] for told in history]), ())
                            many += len(history)
        self.assertGreater(many, 300)


class FirstWrongTest(unittest.TestCase):
    def test_against_the_words(self):
        found = []
        for rng, pact, family in tried(242, 60):
            history = random_history(rng, pact)
            expected = None
            for at in range(len(history)):
                ahead = history[:at + 1]
                if in_family(family, heard_liars(pact, heard_of(ahead))) and not is_safe(pact, family, ahead):
                    expected = at
                    break
            self.assertEqual(first_wrong_answer(pact, family, history), expected)
            found.append(expected)
        self.assertGreater(min(map(found.count, (None, 0, 1))), 10)

    def test_edges_and_errors(self):
        torn = base_pact("n")
        self.assertIsNone(first_wrong_answer(torn, ONE_LIES, ()))
        self.assertIsNone(first_wrong_answer(pact=torn, family=ONE_LIES, history=(("a", ("m", "n"), "bound"),)))
        # What is not possible is not wrong.
        self.assertIsNone(first_wrong_answer(torn, ((),), (("b", ("m", "n"), "bound"), ("a", (), "bound"))))
        self.assertEqual(first_wrong_answer(torn, (("b",),), (("b", (), "bound"), ("a", ("m", "n"), "void"))), 0)
        self.assertEqual(raised(InvalidFamily, first_wrong_answer, torn, (), None), -1)
        self.assertEqual(raised(InvalidAsk, first_wrong_answer, torn, ((),), (("a", ()),)), 0)


class WrongRuleTest(unittest.TestCase):
    def test_some_run_in_which_it_is_wrong(self):
        rights, wrongs = 0, []
        for rng, pact, family in tried(243, 60):
            heard = rng.choice((random_asks, rising_asks))(rng, pact)
            if not in_family(family, heard_liars(pact, heard)):
                self.assertEqual(raised(Refused, wrong_rule_run, pact, family, heard, None), "liars")
                continue
            for rule in (random_rule(rng.random()), lambda *told: plain_answer(pact, *told)):
                history = ()
                for ask in heard:
                    history += ((*ask, rule(history, *ask)),)
                at = first_wrong_answer(pact, family, history)
                run = wrong_rule_run(pact, family, heard, rule)
                if at is None:
                    self.assertIsNone(run)
                    rights += 1
                    continue
                self.assertTrue(in_family(family, run_liars(pact, need_run(pact, run))))
                self.assertEqual(run_heard(pact, run)[:at + 1], heard[:at + 1])
                self.assertTrue(run_wrongs(pact, run, [told[2] for told in replay(pact, run, rule)]))
                wrongs.append(at)
        self.assertGreater(min(rights, wrongs.count(0), wrongs.count(1)), 10)

    def test_wrong_in_no_run_exactly_if_all_answers_are_right(self):
        found = []
        for pact in small_pacts(244, 12, hands=(2, 2), notes=(3, 4), density=(0.5, 0.8)) + [base_pact(), OTHER]:
            known = games(pact)
            for family in all_families(pact.hands):
                fitting = [(heard, rows) for liars, heard, rows in known if in_family(family, liars)]
                rules = [random_rule(seed) for seed in range(5)] + [lambda *told: plain_answer(pact, *told)]
                if isinstance(court(pact, family), Just):
                    rules += [lambda *told: right_answers(pact, family, *told)[0],
                              lambda *told: right_answers(pact, family, *told)[-1]]
                for rule in rules:
                    wrong, right = self.tell(pact, family, fitting, rule)
                    self.assertEqual(wrong, not right)
                    found.append(wrong)
        self.assertGreater(min(found.count(True), found.count(False)), 9)

    def tell(self, pact, family, fitting, rule):
        """Whether a rule is wrong in some run that fits, and whether all of its answers in these are right."""
        wrong, right, told = False, True, {}
        for heard, rows in fitting:
            if heard not in told:
                history = ()
                for ask in heard:
                    history += ((*ask, rule(history, *ask)),)
                told[heard] = tuple(answer for _, _, answer in history)
                right = right and first_wrong_answer(pact, family, history) is None
            wrong = wrong or told[heard] in rows
        return wrong, right

    def test_calls(self):
        pact = base_pact()
        heard = (("a", ("m",)), ("b", ("m", "n")))
        calls = []

        def rule(history, hand, moment):
            calls.append((history, hand, moment))
            return "void"

        self.assertIsNone(wrong_rule_run(pact, ONE_LIES, heard, rule))
        self.assertEqual(calls, [((), "a", ("m",)), ((("a", ("m",), "void"),), "b", ("m", "n"))])
        for many, wrong in itertools.product((0, 1), (None, True, "maybe", ["void"], ("bound",), 0)):
            answers = ["bound"] * many + [wrong]
            call = lambda *told: answers.pop(0)
            self.assertEqual(raised(Refused, wrong_rule_run, pact, ONE_LIES, heard, call), "answer")
            self.assertEqual(answers, [])
        self.assertEqual(raised(Refused, wrong_rule_run, pact, ((),), (("b", ("m",)), ("a", ())), None), "liars")

    def test_errors_and_their_order(self):
        pact = base_pact()
        for call, more in ((wrong_rule_run, (None,)), (right_rows, ())):
            self.assertEqual(raised(InvalidFamily, call, pact, (("b",), ("a",)), None, *more), 1)
            self.assertEqual(raised(InvalidAsk, call, pact, ((),), (("a", ()), ("a", ("m",))), *more), 1)
            self.assertEqual(raised(InvalidAsk, call, pact, ((),), (("a", (), "void"),), *more), 0)
            self.assertEqual(raised(Refused, call, pact, (("b",),), (("a", ()), ("b", ("m",))), *more), "liars")
        self.assertIsNone(wrong_rule_run(pact=pact, family=ONE_LIES, heard=(), rule=None))
        self.assertEqual(right_rows(pact=pact, family=ONE_LIES, heard=()), ((),))


class RowsTest(unittest.TestCase):
    def test_against_the_words(self):
        sizes = []
        for rng, pact, family in tried(245, 60):
            heard = rng.choice((random_asks, rising_asks))(rng, pact)
            if not in_family(family, heard_liars(pact, heard)):
                continue
            rows = []
            for row in itertools.product(("bound", "void"), repeat=len(heard)):
                history = tuple((*ask, answer) for ask, answer in zip(heard, row))
                if first_wrong_answer(pact, family, history) is None:
                    rows.append(row)
            found = right_rows(pact, family, heard)
            self.assertEqual(found, tuple(rows))
            self.assertEqual(found, tuple(sorted(found)))
            sizes.append(len(found))
            if isinstance(court(pact, family), Just):
                self.assertTrue(found)
            for row in itertools.product(("bound", "void"), repeat=len(heard)):
                self.assertEqual(row in found, self.is_row(pact, family, heard, row))
        self.assertGreater(min(map(sizes.count, (0, 1, 2))), 10)

    def is_row(self, pact, family, heard, row):
        """Voids, each right; then perhaps a first bound without bars; then voids for those alone who hold back."""
        at = row.index("bound") if "bound" in row else len(row)
        history = tuple((*ask, answer) for ask, answer in zip(heard, row))
        if any(not is_safe(pact, family, history[:many]) for many in range(1, at + 1)):
            return False
        if at < len(row) and bound_bars(pact, history[:at + 1]):
            return False
        for many in range(at + 1, len(row)):
            seen = {note for _, shown in heard[:many + 1] for note in shown}
            hand, moment = heard[many]
            if row[many] == "void" and not set(notes_of(pact, hand)) & seen - set(moment):
                return False
        return True

    def test_six_hands(self):
        hands = tuple("abcdef")
        pact = chain_pact(hands, 40)
        heard = tuple((hand, tuple(sorted(pact.names[:at]))) for at, hand in enumerate("abcdef", 3))
        rows = right_rows(pact, (hands,), heard)
        self.assertIn(("void",) * 6, rows)
        self.assertEqual(rows, tuple(sorted(rows)))


class LimitsTest(unittest.TestCase):
    def naive_limit(self, pact, family, hand):
        found = [-1]
        for note in notes_of(pact, hand):
            rows = [row for row in all_rows([one for one in pact.hands if one != hand])
                    if in_family(family, tuple(sorted(row[:-1] + (hand,))))] if in_family(family, (hand,)) else []
            fails = [row for row in rows if len(climb_from(pact, note, row)) < len(row) or
                     not lies_under(pact, climb_from(pact, note, row)[-1], key_note(pact, row[-1]))]
            if lies_under(pact, note, key_note(pact, hand)) and not fails:
                found.append(level_of(pact, note))
        return max(found)

    def test_against_the_words(self):
        limits = []
        for _, pact, family in tried(246, 50):
            expected = tuple(self.naive_limit(pact, family, hand) for hand in pact.hands)
            self.assertEqual(first_limits(pact, family), expected)
            limits += expected
            levels = [max(next_level(pact, hand, note) for note in pact.ready) for hand in pact.hands]
            just = isinstance(court(pact, family), Just)
            self.assertEqual(just, all(level <= limit for level, limit in zip(levels, expected)))
            if just:
                self.check_first_voids(pact, family, expected)
        self.assertGreater(min(map(limits.count, (-1, 0, 1))), 20)

    def check_first_voids(self, pact, family, limits):
        for hand, limit in zip(pact.hands, limits):
            own = set(notes_of(pact, hand))
            for moment in naive_moments(pact):
                right = right_answers(pact, family, (), hand, moment)
                self.assertEqual("void" in right, len(own & set(moment)) <= limit)

    def test_edges(self):
        pact = base_pact()
        self.assertEqual(first_limits(pact, ((),)), (1, 1))
        self.assertEqual(first_limits(pact=pact, family=(("a",),)), (1, 1))
        self.assertEqual(first_limits(pact, (("b",),)), (1, 0))
        self.assertEqual(first_limits(base_pact("n"), ONE_LIES), (0, -1))
        self.assertEqual(raised(InvalidFamily, first_limits, pact, None), -1)
        self.assertEqual(len(first_limits(chain_pact(tuple("abcdef"), 40), (tuple("abcdef"),))), 6)


class GameTest(unittest.TestCase):
    def test_right_exactly_if_some_rule_goes_on(self):
        many = 0
        for pact in small_pacts(247, 6, hands=(2, 2), notes=(3, 4), density=(0.5, 0.8)):
            known, moments = games(pact), naive_moments(pact)
            for family in all_families(pact.hands):
                game = Game(known, family)
                for hand, moment in itertools.product(pact.hands, moments):
                    heard = ((hand, moment),)
                    if game.is_possible(heard):
                        right = tuple(answer for answer in ("bound", "void") if game.is_safe(heard, (answer,)))
                        self.assertEqual(right_answers(pact, family, (), hand, moment), right)
                        many += 1
        self.assertGreater(many, 100)


if __name__ == "__main__":
    unittest.main()
