"""[28] and [29]: the plain rule, ranks and chains, and rules to a depth."""

import random
import unittest

from boundorvoid.climbs import climb, row_holds
from boundorvoid.court import Just, court
from boundorvoid.errors import InvalidAsk, InvalidMoment, InvalidSize, NoName, Refused
from boundorvoid.families import in_family
from boundorvoid.pacts import lies_under, notes_of, ready_note, whole_paper
from boundorvoid.rules import ask_chain, ask_rank, deep_answer, plain_answer, plain_reasons
from boundorvoid.runs import need_history, run_liars
from boundorvoid.wrongs import replay, run_wrongs

from tests.helpers import all_families, all_runs, base_pact, chain_pact, close_pacts, naive_moments, raised
from tests.helpers import random_history, random_run, rising_asks, small_pacts

CALLS = (plain_reasons, plain_answer, ask_rank, ask_chain, deep_answer)


def tried(seed, many, **sizes):
    """Pacts with histories, and asks of hands that are not in them."""
    rng = random.Random(seed)
    for pact in small_pacts(seed, many, **sizes) + close_pacts(seed, many, **sizes):
        moments = naive_moments(pact)
        for _ in range(6):
            history = random_history(rng, pact, rng.randrange(len(pact.hands)))
            fresh = [hand for hand in pact.hands if hand not in [told[0] for told in history]]
            yield pact, history, rng.choice(fresh), rng.choice(moments + moments[-3:] * 4)


def naive_reasons(pact, history, moment):
    seen = {note for _, shown, _ in history for note in shown} | set(moment)
    unready = [hand for hand in pact.hands if ready_note(pact, hand) not in seen]
    unshown = [hand for hand, shown, answer in history
               if answer == "void" and not seen & set(notes_of(pact, hand)) - set(shown)]
    return tuple(sorted(unready)), tuple(sorted(unshown))


def naive_chain(pact, history, hand, moment):
    """(rank, from, row), as [29] tells them."""
    unready, unshown = naive_reasons(pact, history, moment)
    if unready:
        return 1, [other for other in pact.hands if other in unready][0], (hand,)
    least = None
    for at, (other, shown, _) in enumerate(history):
        if other in unshown:
            rank, start, row = naive_chain(pact, history[:at], other, shown)
            if least is None or rank + 1 < least[0]:
                least = rank + 1, start, row + (hand,)
    return least or (0, None, (hand,))


class PlainTest(unittest.TestCase):
    def test_examples(self):
        pact = base_pact("n")
        self.assertEqual(plain_reasons(pact, (), "a", ("m",)), (("b",), ()))
        self.assertEqual(plain_reasons(pact, (("a", ("m",), "void"),), "b", ("m", "n")), ((), ("a",)))
        self.assertEqual(plain_reasons(pact, (("a", ("m",), "bound"),), "b", ("m", "n")), ((), ()))
        self.assertEqual(plain_reasons(pact, (("a", ("m",), "void"),), "b", ("m", "n", "o")), ((), ()))
        self.assertEqual(plain_reasons(pact, (("a", (), "void"),), "b", ()), (("a", "b"), ("a",)))
        self.assertEqual(plain_answer(pact, (), "a", ("m",)), "void")
        self.assertEqual(plain_answer(pact, (), "a", ("m", "n")), "bound")
        self.assertEqual(plain_answer(pact, (("a", ("m",), "void"),), "b", ("m", "n")), "void")
        self.assertEqual(plain_answer(pact, (("a", ("m",), "void"),), "b", ("m", "n", "o")), "bound")
        # Who is told bound first need not have seen anything, and a bound stands.
        self.assertEqual(plain_answer(pact, (("a", (), "bound"),), "b", ()), "bound")

    def test_a_hand_that_asks_again(self):
        pact = base_pact()
        for answer in ("bound", "void"):
            for other in ("bound", "void"):
                history = (("a", (), answer), ("b", ("m", "n"), other))
                self.assertEqual(plain_answer(pact, history, "a", ("m", "n", "o", "p")), answer)
                self.assertEqual(plain_answer(pact, history, "b", ()), other)
                for depth in (0, 1, 2, None):
                    self.assertEqual(deep_answer(pact, history, "a", (), depth=depth), answer)
        for call in (plain_reasons, ask_rank, ask_chain):
            self.assertEqual(raised(Refused, call, pact, (("a", (), "void"),), "a", ("m",)), "asked")
            self.assertEqual(raised(Refused, call, pact, (("b", (), "bound"), ("a", (), "void")), "a", ()), "asked")

    def test_against_the_words(self):
        answers = []
        for pact, history, hand, moment in tried(200, 50):
            unready, unshown = reasons = naive_reasons(pact, history, moment)
            self.assertEqual(plain_reasons(pact, history, hand, moment), reasons)
            bound = "bound" in [told[2] for told in history]
            answer = "bound" if bound or not unready and not unshown else "void"
            self.assertEqual(plain_answer(pact, history, hand, moment), answer)
            answers.append((answer, bound))
        self.assertGreater(min(map(answers.count, [("bound", True), ("bound", False), ("void", False)])), 25)

    def test_errors_and_their_order(self):
        pact = base_pact()
        wrong = (("a", ("m",), "void"), ("a", (), "void"))
        for call in CALLS:
            for history, at in ((None, -1), ([], -1), ("a", -1), (7, -1), (wrong, 1), ((("a", ("m",)),), 0),
                                ((("a", ("n",), "void"),), 0), ((("a", (), "maybe"),), 0), ((["a", (), "void"],), 0),
                                ((("c", (), "void"),), 0), ((("a", (), True),), 0), ((pact,), 0)):
                self.assertEqual(raised(InvalidAsk, call, pact, history, "zz", None), at)
            self.assertEqual(raised(NoName, call, pact, (), "zz", None), "zz")
            self.assertEqual(raised(NoName, call, pact, (), "m", ("n",)), "m")
            for moment, at in ((None, -1), (["m"], -1), ("m", -1), (("n",), 0), (("m", "m"), 1), (("q",), 0),
                               (("m", 1), 1), (True, -1), (pact, -1)):
                self.assertEqual(raised(InvalidMoment, call, pact, wrong[:1], "a", moment), at)

    def test_no_history_among_those_of_all_pacts(self):
        pact = chain_pact(tuple("abcdef"), 40)
        self.assertEqual(plain_answer(pact, (), "f", tuple(sorted(pact.names[:6]))), "bound")
        self.assertEqual(plain_answer(pact, (), "f", tuple(sorted(pact.names[:5]))), "void")
        self.assertEqual(plain_reasons(pact, (), "a", ())[0], tuple("abcdef"))

    def test_right_in_all_runs_exactly_if_just(self):
        justs = torns = 0
        for pact in small_pacts(201, 60, hands=(2, 2), notes=(3, 5), density=(0.5, 0.8)):
            runs = [(run_liars(pact, run), plain_wrongs(pact, run)) for run in all_runs(pact)]
            for family in all_families(pact.hands):
                just = isinstance(court(pact, family), Just)
                wrong = [1 for liars, wrongs in runs if wrongs and in_family(family, liars)]
                self.assertEqual(just, not wrong)
                justs, torns = justs + just, torns + (not just)
        self.assertGreater(min(justs, torns), 15)

    def test_never_bound_too_early(self):
        rng, bounds = random.Random(202), 0
        for pact in small_pacts(202, 60) + close_pacts(202, 120):
            for _ in range(8):
                run = random_run(rng, pact)
                history = replay(pact, run, lambda *told: plain_answer(pact, *told))
                liars = run_liars(pact, run)
                sent, voids = set(), []
                answers = {hand: answer for hand, _, answer in history}
                for event in run:
                    if event[0] == "send":
                        sent.add(event[1])
                    elif answers[event[1]] == "bound":
                        self.assertTrue(set(pact.ready) <= sent)
                        self.assertFalse(set(voids) - set(liars))
                        bounds += 1
                    else:
                        voids.append(event[1])
        self.assertGreater(bounds, 100)


def plain_wrongs(pact, run):
    history = replay(pact, run, lambda *told: plain_answer(pact, *told))
    return run_wrongs(pact, run, [answer for _, _, answer in history])


class RankTest(unittest.TestCase):
    def test_ranks_0_and_1_and_more(self):
        pact = base_pact("n")
        self.assertEqual((ask_rank(pact, (), "a", ("m",)), ask_chain(pact, (), "a", ("m",))), (1, ("b", ("a",))))
        self.assertEqual((ask_rank(pact, (), "a", ("m", "n")), ask_chain(pact, (), "a", ("m", "n"))),
                         (0, (None, ("a",))))
        history = (("a", ("m",), "void"),)
        self.assertEqual(ask_rank(pact, history, "b", ("m", "n")), 2)
        self.assertEqual(ask_chain(pact, history, "b", ("m", "n")), ("b", ("a", "b")))
        # A void that the plain rule would not tell has rank 0 itself.
        history = (("a", ("m", "n"), "void"),)
        self.assertEqual(ask_rank(pact, history, "b", ("m", "n")), 1)
        self.assertEqual(ask_chain(pact, history, "b", ("m", "n")), (None, ("a", "b")))

    def test_the_earliest_of_least_rank_and_the_first_missing_hand(self):
        pact = chain_pact(tuple("bac"), 9)
        self.assertEqual(ask_chain(pact, (), "a", ()), ("b", ("a",)))
        self.assertEqual(ask_chain(pact, (), "c", ("aa",)), ("a", ("c",)))
        history = (("c", ("aa",), "void"), ("b", ("aa",), "void"))
        shown = ("aa", "ab", "ac")
        self.assertEqual(ask_chain(pact, history, "a", shown), ("a", ("b", "a")))
        loose = (("b", ("aa",), "void"), ("a", ("aa", "ab"), "void"))
        self.assertEqual(ask_rank(pact, loose, "c", shown), 2)
        self.assertEqual(ask_chain(pact, loose, "c", shown), ("a", ("b", "c")))

    def test_against_the_words(self):
        ranks = []
        for pact, history, hand, moment in tried(203, 60, hands=(2, 4), notes=(4, 8)):
            rank, start, row = naive_chain(pact, history, hand, moment)
            self.assertEqual(ask_rank(pact, history, hand, moment), rank)
            self.assertEqual(ask_chain(pact, history, hand, moment), (start, row))
            self.assertEqual(len(row), rank if start else rank + 1)
            ranks.append(rank)
        self.assertGreater(min(map(ranks.count, (0, 1, 2))), 20)
        self.assertGreater(max(ranks), 2)

    def test_what_was_seen_along_the_chain(self):
        for pact, history, hand, moment in tried(204, 60, hands=(2, 4), notes=(4, 8)):
            start, row = ask_chain(pact, history, hand, moment)
            if start is None:
                continue
            notes = (ready_note(pact, start),) + climb(pact, start, row)
            seen = set()
            shown = {}
            for other, told, _ in history + ((hand, moment, None),):
                seen |= set(told)
                shown[other] = set(seen)
            for other, note in zip(row, notes):
                self.assertFalse([name for name in shown[other] if lies_under(pact, note, name)])

    def test_whoever_is_wronged_ends_a_failing_part(self):
        rng, many = random.Random(205), 0
        for pact in small_pacts(205, 150, notes=(4, 8), density=(0.5, 0.8)) + close_pacts(205, 150):
            for _ in range(6):
                run = random_run(rng, pact, most=16)
                if not set(whole_paper(pact)) <= {event[1] for event in run if event[0] == "send"}:
                    continue
                liars = run_liars(pact, run)
                history = replay(pact, run, lambda *told: plain_answer(pact, *told))
                for at, (hand, moment, answer) in enumerate(history):
                    if answer == "void" and hand not in liars:
                        start, row = ask_chain(pact, history[:at], hand, moment)
                        part = row[:[other not in liars for other in row].index(True) + 1]
                        self.assertFalse(row_holds(pact, start, part))
                        many += 1
        self.assertGreater(many, 30)


class DeepTest(unittest.TestCase):
    def test_depths(self):
        for pact, history, hand, moment in tried(206, 60, hands=(2, 4), notes=(4, 8)):
            plain = plain_answer(pact, history, hand, moment)
            bound = "bound" in [told[2] for told in history]
            rank = naive_chain(pact, history, hand, moment)[0]
            self.assertEqual(deep_answer(pact, history, hand, moment), plain)
            self.assertEqual(deep_answer(pact, history, hand, moment, depth=None), plain)
            for depth in range(len(pact.hands) + 2):
                expected = "void" if not bound and 1 <= rank <= depth else "bound"
                self.assertEqual(deep_answer(pact, history, hand, moment, depth=depth), expected)
                if depth >= len(pact.hands):
                    self.assertEqual(expected, plain)
            self.assertEqual(deep_answer(pact, history, hand, moment, depth=0), "bound")

    def test_wrong_depths_come_first(self):
        pact = base_pact()
        for depth in (True, False, -1, "1", "", (1,), [], pact, "depth"):
            self.assertEqual(raised(InvalidSize, deep_answer, pact, None, "zz", None, depth=depth), "depth")
        self.assertEqual(raised(InvalidAsk, deep_answer, pact, None, "zz", None, depth=10 ** 30), -1)
        self.assertRaises(TypeError, deep_answer, pact, (), "a", (), 1)

    def test_names_of_parameters(self):
        pact = base_pact("n")
        told = {"pact": pact, "history": (("a", ("m",), "void"),), "hand": "b", "moment": ("m", "n")}
        self.assertEqual(deep_answer(depth=1, **told), "bound")
        self.assertEqual(deep_answer(depth=2, **told), "void")
        self.assertEqual(plain_answer(**told), "void")
        self.assertEqual(ask_rank(**told), 2)

    def test_six_hands_in_a_row(self):
        pact = chain_pact(tuple("abcdef"), 36)
        history = ()
        for many, hand in enumerate("abcde"):
            shown = tuple(sorted(pact.names[:5 + many]))
            self.assertEqual(ask_rank(pact, history, hand, shown), many + 1)
            history += ((hand, shown, "void"),)
        shown = tuple(sorted(pact.names[:10]))
        self.assertEqual(need_history(pact, history), history)
        self.assertEqual(ask_chain(pact, history, "f", shown), ("f", tuple("abcdef")))
        self.assertEqual(ask_rank(pact, history, "f", shown), 6)
        self.assertEqual(deep_answer(pact, history, "f", shown, depth=6), "void")
        self.assertEqual(deep_answer(pact, history, "f", shown, depth=5), "bound")

    def test_an_answer_hangs_on_the_arguments_alone(self):
        pact = base_pact()
        asks = rising_asks(random.Random(207), pact, 2)
        history = ((*asks[0], "void"),)
        before = plain_answer(pact, history, *asks[1])
        plain_answer(pact, (), *asks[1])
        self.assertEqual(plain_answer(pact, history, *asks[1]), before)


if __name__ == "__main__":
    unittest.main()
