"""[18]: alike runs."""

import itertools
import random
import unittest

from boundorvoid.errors import InvalidRun
from boundorvoid.pacts import lies_under
from boundorvoid.runs import need_run, run_heard, run_liars
from boundorvoid.spans import eager_run, late_run, run_spans
from boundorvoid.wrongs import run_wrongs

from tests.helpers import base_pact, chain_pact, loose_pact, note_names, owners_of, raised, random_run, small_pacts


def own_events(pact, run):
    owners = owners_of(pact)
    return {hand: [event for event in run if hand == (event[1] if event[0] == "ask" else owners[event[1]])]
            for hand in pact.hands}


def alike_runs(pact, run):
    """All alike runs, tried one by one."""
    asks = [event for event in run if event[0] == "ask"]
    own = own_events(pact, run)
    found = []
    for order in set(itertools.permutations(run)):
        if [event for event in order if event[0] == "ask"] != asks or own_events(pact, order) != own:
            continue
        try:
            found.append(need_run(pact, order))
        except InvalidRun:
            pass
    return found


def asks_ahead(run):
    return {event[1]: sum(one[0] == "ask" for one in run[:at]) for at, event in enumerate(run) if event[0] == "send"}


def told_order(pact, run):
    """A run with the notes between two asks in told order."""
    ahead = asks_ahead(run)
    asks = [event for event in run if event[0] == "ask"]
    events = []
    for many in range(len(asks) + 1):
        events += [("send", name) for name in pact.names if ahead.get(name) == many] + asks[many:many + 1]
    return tuple(events)


def tried_runs(seed, many, most=7):
    rng = random.Random(seed)
    for pact in small_pacts(seed, many, hands=(2, 3), notes=(3, 5), density=(0.0, 0.2, 0.4)):
        run = random_run(rng, pact, most=most, ask=0.4)
        if len(run) <= most:
            yield pact, run


class SpansTest(unittest.TestCase):
    def test_the_spans(self):
        pact = loose_pact((2, 1))
        run = (("ask", "b", ()), ("send", "aaa"), ("ask", "a", ("aaa",)), ("send", "baa"), ("send", "aab"))
        self.assertEqual(run_spans(pact=pact, run=run), {"aaa": (0, 1), "aab": (2, 2), "baa": (1, 2)})
        self.assertEqual(eager_run(pact=pact, run=run), (run[1], run[0], run[3], run[2], run[4]))
        self.assertEqual(late_run(pact=pact, run=run), (run[0], run[1], run[2], run[4], run[3]))

    def test_without_events_and_without_asks(self):
        pact = base_pact()
        self.assertEqual((run_spans(pact, ()), eager_run(pact, ()), late_run(pact, ())), ({}, (), ()))
        run = (("send", "m"), ("send", "n"))
        self.assertEqual((run_spans(pact, run), eager_run(pact, run)), ({"m": (0, 0), "n": (0, 0)}, run))
        loose = loose_pact((1, 1))
        run = (("send", "baa"), ("send", "aaa"))
        self.assertEqual((list(run_spans(loose, run)), late_run(loose, run)), (["aaa", "baa"], run[::-1]))

    def test_wrong_runs(self):
        for call in (run_spans, eager_run, late_run):
            self.assertEqual(raised(InvalidRun, call, base_pact(), (("send", "n"),)), 0)
            self.assertEqual(raised(InvalidRun, call, base_pact(), []), -1)

    def test_against_all_alike_runs(self):
        many = 0
        for pact, run in tried_runs(51, 150):
            runs = alike_runs(pact, run)
            ahead = [asks_ahead(one) for one in runs]
            spans = run_spans(pact, run)
            self.assertEqual(list(spans), [name for name in pact.names if name in ahead[0]])
            for name, span in spans.items():
                places = [one[name] for one in ahead]
                self.assertEqual(span, (min(places), max(places)))
            eager, late = eager_run(pact, run), late_run(pact, run)
            self.assertIn(eager, runs)
            self.assertIn(late, runs)
            self.assertEqual(asks_ahead(eager), {name: span[0] for name, span in spans.items()})
            self.assertEqual(asks_ahead(late), {name: span[1] for name, span in spans.items()})
            self.assertEqual((told_order(pact, eager), told_order(pact, late)), (eager, late))
            for one in runs:
                self.assertEqual(run_spans(pact, one), spans)
                self.assertEqual((run_heard(pact, one), run_liars(pact, one)),
                                 (run_heard(pact, run), run_liars(pact, run)))
            many += len(runs)
        self.assertGreater(many, 500)

    def test_places_within_the_spans_are_the_alike_runs(self):
        for pact, run in tried_runs(52, 120):
            spans = run_spans(pact, run)
            asks = [event for event in run if event[0] == "ask"]
            made = set()
            for places in itertools.product(*(range(low, high + 1) for low, high in spans.values())):
                ahead = dict(zip(spans, places))
                if all(ahead[one] <= ahead[other] for one in ahead for other in ahead if lies_under(pact, one, other)):
                    events = []
                    for many in range(len(asks) + 1):
                        events += [("send", name) for name in spans if ahead[name] == many] + asks[many:many + 1]
                    made.add(tuple(events))
            self.assertEqual(made, {told_order(pact, one) for one in alike_runs(pact, run)})

    def test_who_is_wronged_in_alike_runs(self):
        rng = random.Random(53)
        for pact, run in tried_runs(53, 120):
            answers = [rng.choice(("bound", "void")) for _ in run_heard(pact, run)]
            wronged = [{hand for hand, _, _ in run_wrongs(pact, one, answers)} for one in alike_runs(pact, run)]
            eager = {hand for hand, _, _ in run_wrongs(pact, eager_run(pact, run), answers)}
            late = {hand for hand, _, _ in run_wrongs(pact, late_run(pact, run), answers)}
            self.assertEqual(eager, set.intersection(*wronged))
            self.assertEqual(late, set.union(*wronged))

    def test_one_hundred_and_fifty_events(self):
        pact = chain_pact(("a", "b"), 40)
        names = note_names(40)
        run = ()
        for name in names:
            run += (("send", name), ("ask", "b", names[:names.index(name) // 2]), ("ask", "b", ()))
        run += tuple(("ask", "b", names) for _ in range(30))
        spans = run_spans(pact, run)
        self.assertEqual((len(run), spans["ab"]), (150, (2, 2)))
        self.assertEqual((spans["aa"], spans[names[-1]], spans[names[-2]]), ((0, 2), (78, 78), (74, 78)))


if __name__ == "__main__":
    unittest.main()
