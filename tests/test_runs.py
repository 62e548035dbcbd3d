"""[15], [16] and [17]: runs, liars, and what is heard."""

import random
import unittest

from boundorvoid.errors import InvalidAsk, InvalidRun
from boundorvoid.pacts import Pact, key_note
from boundorvoid.runs import filling_liars, filling_run, heard_liars, heard_run, need_heard, need_history, need_run
from boundorvoid.runs import run_heard, run_liars

from tests.helpers import all_runs, base_pact, chain_pact, loose_pact, naive_moments, naive_under, naive_whole
from tests.helpers import note_names, owners_of, raised, random_run, small_pacts, subsets

SENDS = (("send", "m"), ("send", "n"), ("send", "o"), ("send", "p"))


def naive_liars(pact, run):
    """Who lies, read off the events of each hand."""
    owners, liars = owners_of(pact), set()
    for hand in pact.hands:
        asks = [at for at, event in enumerate(run) if event[:2] == ("ask", hand)]
        sends = [(at, event[1]) for at, event in enumerate(run) if event[0] == "send" and owners[event[1]] == hand]
        if len(asks) > 1:
            liars.add(hand)
        for ask in asks:
            if any(at > ask or name not in run[ask][2] for at, name in sends):
                liars.add(hand)
    return tuple(sorted(liars))


def naive_heard(run):
    heard = []
    for event in run:
        if event[0] == "ask" and event[1] not in [hand for hand, _ in heard]:
            heard.append(event[1:])
    return tuple(heard)


def lots_between(least, greatest):
    return [lot for lot in subsets(sorted(greatest)) if set(least) <= set(lot)]


class NeedRunTest(unittest.TestCase):
    def test_runs(self):
        pact = base_pact()
        for run in ((), SENDS, SENDS[:2] + (("ask", "a", ("m",)), ("ask", "a", ()), SENDS[2]), (("ask", "b", ()),)):
            self.assertIs(need_run(pact, run), run)
        self.assertEqual(need_run(pact=pact, value=SENDS), SENDS)

    def test_wrong_values(self):
        pact = base_pact()
        for value in (None, [], list(SENDS), "send", 0, False, pact):
            self.assertEqual(raised(InvalidRun, need_run, pact, value), -1)
        for event in (None, [], "send", ("send",), ("send", "m"), ("send", "o"), ("send", "x"), ("send", None),
                      ("send", ["n"]), ("send", "n", ()), ["send", "n"], ("sends", "n"), ("ask", "a"), (1, "n"),
                      ("ask", "c", ()), ("ask", "m", ()), ("ask", ["a"], ()), ("ask", "a", ["m"]), ("ask", "a", ("n",)),
                      ("ask", "a", ("m", "n")), ("ask", "a", ("x",)), ("ask", "a", None), ("ask", "a", (), ()),
                      ("ask", "a", ("m", "m")), ("tell", "a", ()), (pact, "n"), ("send", "p"), ()):
            self.assertEqual(raised(InvalidRun, need_run, pact, SENDS[:1] + (event,)), 1, event)
            self.assertEqual(raised(InvalidRun, need_run, pact, SENDS[:1] + (event, None)), 1, event)
        self.assertEqual(raised(InvalidRun, need_run, pact, SENDS + SENDS[3:]), 4)
        self.assertEqual(raised(InvalidRun, need_run, pact, SENDS[1:]), 0)

    def test_functions_with_a_run_raise_it(self):
        for call in (run_heard, run_liars):
            self.assertEqual(raised(InvalidRun, call, base_pact(), SENDS[:1] * 2), 1)
            self.assertEqual(raised(InvalidRun, call, base_pact(), [SENDS[0]]), -1)

    def test_against_the_words(self):
        rng = random.Random(41)
        for pact in small_pacts(41, 60, hands=(2, 3), notes=(2, 6)):
            under, moments = naive_under(pact.notes), naive_moments(pact)
            for _ in range(10):
                events = [("send", rng.choice(pact.names)) for _ in range(3)]
                events += [("ask", rng.choice(pact.hands), rng.choice(moments)) for _ in range(2)]
                rng.shuffle(events)
                run = random_run(rng, pact) + tuple(events)
                sent, wrong = set(), None
                for at, event in enumerate(run):
                    if event[0] == "send":
                        fits = event[1] not in sent and under[event[1]] - {event[1]} <= sent
                        sent.add(event[1])
                    else:
                        fits = set(event[2]) <= sent
                    if not fits:
                        wrong = at
                        break
                if wrong is None:
                    self.assertIs(need_run(pact, run), run)
                else:
                    self.assertEqual(raised(InvalidRun, need_run, pact, run), wrong)


class LiarsTest(unittest.TestCase):
    def test_the_three_ways_to_lie(self):
        pact = base_pact()
        self.assertEqual(run_liars(pact, ()), ())
        self.assertEqual(run_liars(pact=pact, run=SENDS), ())
        self.assertEqual(run_liars(pact, SENDS[:2] + (("ask", "a", ("m",)), ("ask", "b", ("m", "n")))), ())
        self.assertEqual(run_liars(pact, SENDS[:2] + (("ask", "b", ("m",)),)), ("b",))
        self.assertEqual(run_liars(pact, SENDS[:2] + (("ask", "a", ("m",)), ("ask", "a", ("m",)))), ("a",))
        self.assertEqual(run_liars(pact, SENDS[:2] + (("ask", "a", ("m",)),) + SENDS[2:]), ("a",))
        self.assertEqual(run_liars(pact, (("ask", "b", ()), ("ask", "a", ())) + SENDS[:2]), ("a", "b"))

    def test_against_the_words(self):
        rng = random.Random(42)
        for pact in small_pacts(42, 60, hands=(2, 4), notes=(2, 7)):
            for _ in range(8):
                run = random_run(rng, pact)
                self.assertEqual(run_liars(pact, run), naive_liars(pact, run))
                self.assertEqual(run_heard(pact=pact, run=run), naive_heard(run))

    def test_one_hundred_and_fifty_events(self):
        pact = chain_pact(tuple("abcdef"), 40)
        names = note_names(40)
        run = tuple(("send", name) for name in names)
        run += tuple(("ask", "abcdef"[k % 6], names[:40 - k % 6]) for k in range(110))
        self.assertIs(need_run(pact, run), run)
        self.assertEqual(run_liars(pact, run), tuple("abcdef"))
        self.assertEqual(run_heard(pact, run), tuple((hand, names[:40 - k]) for k, hand in enumerate("abcdef")))


class NeedHeardTest(unittest.TestCase):
    def test_heards_and_histories(self):
        pact = base_pact()
        for heard in ((), (("a", ()),), (("b", ("m", "n")), ("a", ("m",)))):
            self.assertIs(need_heard(pact, heard), heard)
            history = tuple(pair + ("void",) for pair in heard)
            self.assertIs(need_history(pact, history), history)
        self.assertEqual(need_heard(pact=pact, value=()), ())
        self.assertEqual(need_history(pact=pact, value=(("a", (), "bound"),)), (("a", (), "bound"),))

    def test_wrong_values(self):
        pact = base_pact()
        for call in (need_heard, need_history, heard_liars, heard_run, filling_liars, filling_run):
            for value in (None, [], "a", True, 5, pact, [("b", ())]):
                self.assertEqual(raised(InvalidAsk, call, pact, value), -1, value)
        for thing in (None, [], ("b",), ["b", ()], ("c", ()), ("m", ()), ("a", ()), ("b", []), ("b", ("n",)), ("b", None),
                      (["b"], ()), ("b", ("m", "m")), (1, ()), ("b", (), "void"), (pact, ())):
            for call in (need_heard, heard_liars, heard_run, filling_liars, filling_run):
                self.assertEqual(raised(InvalidAsk, call, pact, (("a", ()), thing)), 1, thing)
        for thing in (None, [], ("b", ()), ["b", (), "void"], ("c", (), "void"), ("a", (), "void"), ("b", ["m"], "void"),
                      ("b", ("n",), "void"), ("b", (), "Void"), ("b", (), None), ("b", (), True), ("b", (), ("void",)),
                      ("b", (), ["void"]), ("b", (), "void", 1)):
            self.assertEqual(raised(InvalidAsk, need_history, pact, (("a", (), "void"), thing)), 1, thing)
            self.assertEqual(raised(InvalidAsk, need_history, pact, (thing,) if thing != ("a", (), "void") else (1,)), 0)


class HeardTest(unittest.TestCase):
    def test_the_examples(self):
        pact = Pact(["a", "b"], [("m", "a", ()), ("n", "b", ("m",)), ("o", "a", ("n",))], ["m", "n"], ("n", "o"))
        run = (SENDS[0], ("ask", "a", ("m",)), SENDS[1], ("ask", "b", ("m", "n")), SENDS[2])
        self.assertEqual((run_liars(pact, run), filling_liars(pact, run_heard(pact, run))), (("a",), ("a",)))
        heard = run_heard(pact, run)
        self.assertEqual(heard_liars(pact=pact, heard=heard), ())
        self.assertEqual(heard_run(pact=pact, heard=heard), run[:4])
        self.assertEqual(filling_run(pact=pact, heard=heard), run)
        self.assertEqual(filling_liars(pact=pact, heard=heard), ("a",))

    def test_no_asks(self):
        pact = base_pact()
        self.assertEqual((heard_liars(pact, ()), heard_run(pact, ()), filling_liars(pact, ())), ((), (), ()))
        self.assertEqual(filling_run(pact, ()), SENDS)
        self.assertEqual(filling_run(base_pact("n o"), ()), SENDS[:3])

    def test_shown_by_others_and_later(self):
        pact = loose_pact((2, 2))
        heard = (("b", ("baa",)), ("a", ("aaa", "baa", "bab")))
        self.assertEqual(heard_liars(pact, heard), ("b",))
        self.assertEqual(heard_run(pact, heard), (("send", "baa"), ("ask",) + heard[0], ("send", "aaa"), ("send", "bab"),
                                                  ("ask",) + heard[1]))

    def test_against_all_runs(self):
        tried = 0
        for pact in small_pacts(43, 40, hands=(2, 2), notes=(2, 4)):
            whole, found = naive_whole(pact), {}
            for run in all_runs(pact):
                found.setdefault(run_heard(pact, run), []).append(run)
            for heard, runs in found.items():
                asked = {hand for hand, _ in heard}
                least, filling = heard_liars(pact, heard), filling_liars(pact, heard)
                self.check_runs(pact, heard, least, filling)
                for run in runs:
                    self.assertLessEqual(set(least), set(run_liars(pact, run)))
                    self.assertLessEqual(set(run_liars(pact, run)), asked)
                    if whole <= {event[1] for event in run if event[0] == "send"}:
                        self.assertLessEqual(set(filling), set(run_liars(pact, run)))
                # Who asks again lies, and nothing more is heard.
                for lot in lots_between(least, asked):
                    run = heard_run(pact, heard) + tuple(("ask", hand, ()) for hand in lot)
                    self.assertEqual((run_heard(pact, run), run_liars(pact, run)), (heard, lot))
                tried += len(runs)
        self.assertGreater(tried, 5000)

    def check_runs(self, pact, heard, least, filling):
        owners, whole = owners_of(pact), naive_whole(pact)
        shown = {name for _, moment in heard for name in moment}
        liars = [hand for hand, moment in heard if any(owners[name] == hand and name not in moment for name in shown)]
        self.assertEqual(least, tuple(sorted(liars)))
        liars += [hand for hand, moment in heard if key_note(pact, hand) not in moment]
        self.assertEqual(filling, tuple(sorted(set(liars))))
        run, sent = [], set()
        for hand, moment in heard:
            run.extend(("send", name) for name in pact.names if name in moment and name not in sent)
            run.append(("ask", hand, moment))
            sent |= set(moment)
        self.assertEqual(heard_run(pact, heard), tuple(run))
        run.extend(("send", name) for name in pact.names if name in whole - sent)
        self.assertEqual(filling_run(pact, heard), tuple(run))
        self.assertEqual(run_liars(pact, heard_run(pact, heard)), least)
        self.assertEqual(run_liars(pact, filling_run(pact, heard)), filling)

    def test_three_hands(self):
        rng = random.Random(44)
        for pact in small_pacts(44, 40, hands=(3, 4), notes=(4, 7)):
            moments = naive_moments(pact)
            hands = rng.sample(pact.hands, rng.randint(0, len(pact.hands)))
            heard = tuple((hand, rng.choice(moments)) for hand in hands)
            self.check_runs(pact, heard, heard_liars(pact, heard), filling_liars(pact, heard))


if __name__ == "__main__":
    unittest.main()
