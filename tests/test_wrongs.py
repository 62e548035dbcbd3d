"""[19]: rules, wrongs, good answers and hopeless runs."""

import itertools
import random
import unittest

from boundorvoid.errors import InvalidRun, Refused
from boundorvoid.pacts import Pact, key_note, lies_under, ready_note, under_of
from boundorvoid.runs import need_run, run_heard, run_liars
from boundorvoid.wrongs import good_answers, hopeless_run, replay, run_wrongs

from tests.helpers import all_runs, base_pact, chain_pact, naive_whole, note_names, raised, random_run, small_pacts

ANSWERS = ("bound", "void")
SENDS = (("send", "m"), ("send", "n"), ("send", "o"), ("send", "p"))


def example():
    return Pact(["a", "b"], [("m", "a", ()), ("n", "b", ("m",)), ("o", "a", ("n",))], ["m", "n"], ("n", "o"))


def example_run():
    return (("send", "m"), ("ask", "a", ("m",)), ("send", "n"), ("ask", "b", ("m", "n")), ("send", "o"))


def naive_wrongs(pact, run, answers):
    """Event by event, by the words of the document."""
    liars, whole = run_liars(pact, run), naive_whole(pact)
    told_by_hand = dict(zip([hand for hand, _ in run_heard(pact, run)], answers))
    found = []
    for hand in pact.hands:
        if hand in liars:
            continue
        unready = False
        for at in range(len(run)):
            sent = {event[1] for event in run[:at + 1] if event[0] == "send"}
            told = {event[1]: told_by_hand[event[1]] for event in run[:at + 1] if event[0] == "ask"}
            somebody = "bound" in told.values()
            if run[at][0] == "ask" and told[run[at][1]] == "bound" and ready_note(pact, hand) not in sent:
                unready = True
            words = [word for word, fits in (("unready", unready),
                                             ("parted", told.get(hand) == "void" and somebody),
                                             ("paper", told.get(hand) == "void" and whole <= sent)) if fits]
            if words:
                found.append((hand, at, words[0]))
                break
    return tuple(found)


class ReplayTest(unittest.TestCase):
    def test_what_the_rule_is_called_with(self):
        pact, calls = base_pact(), []

        def rule(*told):
            calls.append(told)
            return ANSWERS[len(calls) % 2]

        run = SENDS[:2] + (("ask", "b", ("m",)), ("ask", "b", ()), ("ask", "a", ("m", "n")), ("ask", "b", ()))
        history = (("b", ("m",), "void"), ("a", ("m", "n"), "bound"))
        self.assertEqual(replay(pact, run, rule), history)
        self.assertEqual(calls, [((), "b", ("m",)), (history[:1], "a", ("m", "n"))])
        self.assertEqual(replay(pact=pact, run=(), rule=rule), ())
        self.assertEqual(len(calls), 2)

    def test_by_position(self):
        def rule(one, two, three, /):
            return "void"

        self.assertEqual(replay(base_pact(), (("ask", "a", ()),), rule), (("a", (), "void"),))

    def test_no_answer(self):
        run = (("ask", "a", ()), ("ask", "b", ()))
        for value in (None, True, 1, "", "Bound", "void ", ("void",), ["void"], base_pact(), b"void"):
            calls = []

            def rule(history, hand, moment):
                calls.append(hand)
                return value

            self.assertEqual(raised(Refused, replay, base_pact(), run, rule), "answer")
            self.assertEqual(calls, ["a"])

        def second(history, hand, moment):
            calls.append(hand)
            return "void" if hand == "a" else None

        calls = []
        more = run + (("ask", "a", ()),)
        self.assertEqual(raised(Refused, replay, base_pact(), more, second), "answer")
        self.assertEqual(calls, ["a", "b"])

    def test_the_run_comes_first(self):
        calls = []
        self.assertEqual(raised(InvalidRun, replay, base_pact(), (("ask", "a", ()), None), calls.append), 1)
        self.assertEqual(calls, [])

    def test_errors_of_the_rule_go_on(self):
        def rule(history, hand, moment):
            raise ZeroDivisionError

        self.assertRaises(ZeroDivisionError, replay, base_pact(), (("ask", "a", ()),), rule)


class WrongsTest(unittest.TestCase):
    def test_the_example(self):
        pact, run = example(), example_run()
        self.assertEqual(run_wrongs(pact, run, ("void", "void")), (("b", 4, "paper"),))
        self.assertEqual(good_answers(pact, run), (("void", "bound"),))
        self.assertEqual(good_answers(pact, run[:-1]), (("void", "void"),))
        self.assertEqual(run_wrongs(pact=pact, run=run, answers=["void", "void"]), (("b", 4, "paper"),))
        self.assertEqual(good_answers(pact=pact, run=run), (("void", "bound"),))

    def test_each_word(self):
        pact = base_pact()
        ask_a, ask_b = ("ask", "a", ()), ("ask", "b", ())
        self.assertEqual(run_wrongs(pact, (ask_a,), ("bound",)), (("a", 0, "unready"), ("b", 0, "unready")))
        run = SENDS[:1] + (("ask", "a", ("m",)),)
        self.assertEqual(run_wrongs(pact, run, ("bound",)), (("b", 1, "unready"),))
        run = SENDS[:2] + (("ask", "a", ("m",)), ("ask", "b", ("m", "n")))
        self.assertEqual(run_wrongs(pact, run, ("bound", "void")), (("b", 3, "parted"),))
        self.assertEqual(run_wrongs(pact, run, ("void", "bound")), (("a", 3, "parted"),))
        self.assertEqual(run_wrongs(pact, run, ("void", "void")), ())
        run = SENDS + (("ask", "a", ("m", "n", "o")),)
        self.assertEqual(run_wrongs(pact, run, ("void",)), (("a", 4, "paper"),))
        # An earlier word at the same event is told; an earlier event goes ahead of an earlier word.
        self.assertEqual(run_wrongs(pact, (ask_b, ask_a), ("bound", "void")),
                         (("a", 0, "unready"), ("b", 0, "unready")))
        self.assertEqual(run_wrongs(pact, (ask_b, ask_a), ("void", "bound")),
                         (("a", 1, "unready"), ("b", 1, "unready")))
        run = SENDS + (("ask", "a", ("m", "n", "o")), ("ask", "b", ("m", "n", "o", "p")))
        self.assertEqual(run_wrongs(pact, run, ("void", "bound")), (("a", 4, "paper"),))
        self.assertEqual(run_wrongs(pact, run, ("bound", "void")), (("b", 5, "parted"),))
        # Liars are not wronged.
        run = (ask_a,) + SENDS
        self.assertEqual(run_wrongs(pact, run, ("void",)), ())
        self.assertEqual(run_wrongs(pact, run, ("bound",)), (("b", 0, "unready"),))

    def test_a_run_without_events(self):
        self.assertEqual(run_wrongs(base_pact(), (), ()), ())
        self.assertEqual(run_wrongs(base_pact(), (), []), ())
        self.assertEqual(good_answers(base_pact(), ()), ((),))
        self.assertEqual(good_answers(base_pact(), SENDS), ((),))

    def test_wrong_runs(self):
        for run, at in (([], -1), ((None,), 0), (SENDS[:1] * 2, 1)):
            self.assertEqual(raised(InvalidRun, run_wrongs, base_pact(), run, ()), at)
            self.assertEqual(raised(InvalidRun, good_answers, base_pact(), run), at)

    def test_against_the_words(self):
        rng = random.Random(61)
        for pact in small_pacts(61, 80, hands=(2, 4), notes=(2, 7)):
            for _ in range(6):
                run = random_run(rng, pact)
                good = []
                for answers in itertools.product(ANSWERS, repeat=len(run_heard(pact, run))):
                    wrongs = naive_wrongs(pact, run, answers)
                    self.assertEqual(run_wrongs(pact, run, answers), wrongs)
                    self.assertEqual(run_wrongs(pact, run, list(answers)), wrongs)
                    if not wrongs:
                        good.append(answers)
                self.assertEqual(good_answers(pact, run), tuple(good))

    def test_which_answers_are_good(self):
        rng = random.Random(62)
        tried = [(pact, run) for pact in small_pacts(62, 25, hands=(2, 2), notes=(2, 3)) for run in all_runs(pact)]
        tried += [(pact, random_run(rng, pact)) for pact in small_pacts(63, 60, hands=(3, 4), notes=(3, 7))]
        none = 0
        for pact, run in tried:
            liars, heard = run_liars(pact, run), run_heard(pact, run)
            honest = [hand for hand in pact.hands if hand not in liars]
            asking = [hand for hand, _ in heard if hand not in liars]
            sends = {event[1]: at for at, event in enumerate(run) if event[0] == "send"}
            filled = naive_whole(pact) <= set(sends)
            asks = [[at for at, event in enumerate(run) if event[:2] == ("ask", hand)][0] for hand, _ in heard]
            good = good_answers(pact, run)
            for answers in itertools.product(ANSWERS, repeat=len(heard)):
                if "bound" not in answers:
                    expected = not filled or not asking
                else:
                    told = dict(zip([hand for hand, _ in heard], answers))
                    first = asks[answers.index("bound")]
                    expected = all(told[hand] == "bound" for hand in asking) and all(
                        sends.get(ready_note(pact, hand), 999) < first for hand in honest)
                self.assertEqual(answers in good, expected)
            expected = any(sends.get(ready_note(pact, hand), 999) > at for hand in honest
                           for at, (asker, _) in zip(asks, heard) if asker in asking)
            self.assertEqual(not good, filled and expected)
            none += not good
        self.assertGreater(none, 20)


class HopelessTest(unittest.TestCase):
    def test_the_run(self):
        notes = [("m", "a", ()), ("n", "b", ()), ("o", "a", ("n",)), ("p", "b", ("m",))]
        pact = Pact(["a", "b"], notes, ["m", "n"], ("n", "o"))
        self.assertEqual(hopeless_run(pact=pact), (("send", "n"), ("ask", "b", ("n",)), ("send", "m"), ("send", "o")))
        self.assertIsNone(hopeless_run(Pact(["a", "b"], notes, ["m", "n"], ("o", "p"))))
        pact = Pact(["a", "b"], notes, ["m", "p"], ("m", "n"))
        self.assertEqual(hopeless_run(pact), (("send", "n"), ("ask", "b", ("n",)), ("send", "m")))
        pact = Pact(["a", "b"], notes, ["m", "p"], ("n", "o"))
        self.assertEqual(hopeless_run(pact), (("send", "n"), ("ask", "b", ("n",)), ("send", "m"), ("send", "o")))
        pact = Pact(["b", "a"], notes, ["p", "m"], ("n", "o"))
        self.assertEqual(hopeless_run(pact), (("send", "n"), ("ask", "b", ("n",)), ("send", "m"), ("send", "o")))

    def test_against_the_words(self):
        for pact in small_pacts(64, 150, hands=(2, 4), notes=(2, 8)):
            pairs = [(g, h) for g in pact.hands for h in pact.hands
                     if not lies_under(pact, ready_note(pact, g), key_note(pact, h))]
            run = hopeless_run(pact)
            if not pairs:
                self.assertIsNone(run)
                continue
            hand = pairs[0][1]
            shown = under_of(pact, key_note(pact, hand))
            rest = naive_whole(pact) - set(shown)
            events = [("send", name) for name in pact.names if name in shown] + [("ask", hand, shown)]
            events += [("send", name) for name in pact.names if name in rest]
            self.assertEqual(run, tuple(events))
            self.assertIs(need_run(pact, run), run)
            self.assertEqual((run_liars(pact, run), good_answers(pact, run)), ((), ()))

    def test_none_is_hopeless_without_such_hands(self):
        without = 0
        for pact in small_pacts(65, 400, hands=(2, 2), notes=(3, 4), density=(0.6, 0.9)):
            if hopeless_run(pact) is None and without < 12:
                without += 1
                for run in all_runs(pact):
                    self.assertNotEqual(good_answers(pact, run), ())
        self.assertGreater(without, 5)

    def test_forty_notes_and_six_hands(self):
        pact = chain_pact(tuple("abcdef"), 40)
        self.assertIsNone(hopeless_run(pact))
        names = note_names(40)
        run = tuple(("send", name) for name in names) + tuple(("ask", hand, names) for hand in "abcdef")
        self.assertEqual(good_answers(pact, run), (("bound",) * 6,))
        self.assertEqual(run_wrongs(pact, run, ("bound",) * 5 + ("void",)), (("f", 45, "parted"),))


if __name__ == "__main__":
    unittest.main()
