"""[75] to [78]: what a log shows afterwards."""

import random
import unittest

from boundorvoid.audits import blame, blaming_lots, excusing_family, found_bounds, log_liars, log_run
from boundorvoid.errors import InvalidAsk, InvalidFamily, InvalidMoment, Refused
from boundorvoid.families import in_family
from boundorvoid.logs import first_history
from boundorvoid.pacts import notes_of
from boundorvoid.rightly import first_wrong_answer
from boundorvoid.runs import heard_liars, need_run, run_liars
from boundorvoid.wrongs import run_wrongs

from tests.helpers import all_families, all_runs, base_pact, chain_pact, close_pacts, loose_pact, naive_moments
from tests.helpers import owners_of, raised, random_log, random_run, small_pacts, subsets
from tests.test_logs import LOG, NO_LOGS

ONE_LIES = (("a",), ("b",))


def tried(seed, many, **sizes):
    """Pacts with logs and found moments."""
    rng = random.Random(seed)
    for pact in small_pacts(seed, many, **sizes) + close_pacts(seed, 2 * many, notes=(5, 8)):
        moments = naive_moments(pact)
        for _ in range(3):
            yield pact, random_log(rng, pact), rng.choice(moments + [(), moments[-1]])


def naive_liars(pact, log, found):
    owners = owners_of(pact)
    sent = {name for _, moment, _ in log for name in moment} | set(found)
    firsts = {}
    for hand, moment, _ in log:
        firsts.setdefault(hand, []).append(moment)
    return tuple(sorted(hand for hand, shown in firsts.items() if len(shown) > 1 or any(
        owners[name] == hand and name not in shown[0] for name in sent)))


def asks_in(run):
    return tuple(event[1:] for event in run if event[0] == "ask")


class LiarsTest(unittest.TestCase):
    def test_against_the_words(self):
        for pact, log, found in tried(750, 60):
            self.assertEqual(log_liars(pact, log, found), naive_liars(pact, log, found))
            run, sent = [], []
            for hand, moment, _ in log:
                run += [("send", name) for name in pact.names if name in moment and name not in sent]
                sent += moment
                run.append(("ask", hand, moment))
            run += [("send", name) for name in pact.names if name in found and name not in sent]
            self.assertEqual(log_run(pact, log, found), tuple(run))
            self.assertEqual(need_run(pact, tuple(run)), tuple(run))
            self.assertEqual(run_liars(pact, tuple(run)), log_liars(pact, log, found))

    def test_the_least_lot_of_liars(self):
        for pact in [base_pact()] + small_pacts(751, 5, hands=(2, 2), notes=(3, 4)):
            for run in all_runs(pact, most_events=6, twice=True):
                log = tuple((hand, moment, "void") for hand, moment in asks_in(run))
                shown = {name for _, moment in asks_in(run) for name in moment}
                sent = {event[1] for event in run if event[0] == "send"}
                found = tuple(sorted(sent - shown)) and tuple(sorted(sent))
                self.assertLessEqual(set(log_liars(pact, log, found)), set(run_liars(pact, run)))

    def test_edges(self):
        pact = base_pact()
        self.assertEqual(log_liars(pact, (), ("m", "n", "o", "p")), ())
        self.assertEqual(log_run(pact, (), ("m", "n")), (("send", "m"), ("send", "n")))
        self.assertEqual(log_liars(pact, LOG[:1], ("m", "n", "o")), ("a",))
        self.assertEqual(log_liars(pact=pact, log=LOG[1:2], found=()), ())
        self.assertEqual(log_liars(pact, LOG, ()), ("a",))
        self.assertEqual(len(log_run(pact=pact, log=LOG[:3] * 13, found=("m", "n", "o", "p"))), 43)


class FoundBoundsTest(unittest.TestCase):
    def test_against_all_moments(self):
        rng, found = random.Random(752), []
        for pact, log, _ in tried(752, 250, density=(0.1, 0.2)):
            family = rng.choice(all_families(pact.hands))
            if not in_family(family, log_liars(pact, log, ())):
                self.assertEqual(raised(Refused, found_bounds, pact, family, log), "liars")
                continue
            fitting = [moment for moment in naive_moments(pact) if in_family(family, log_liars(pact, log, moment))]
            greatest = [one for one in fitting if not any(set(one) < set(other) for other in fitting)]
            self.assertEqual(found_bounds(pact, family, log), tuple(sorted(greatest)))
            found.append(len(greatest))
        self.assertGreater(found.count(1), 30)
        self.assertGreater(len(found) - found.count(1), 5)

    def test_exactly_what_some_run_that_fits_sends(self):
        for pact in [base_pact()] + small_pacts(753, 4, hands=(2, 2), notes=(3, 4)):
            ends = {}
            for run in all_runs(pact, twice=True, most_events=7):
                sent = tuple(sorted(event[1] for event in run if event[0] == "send"))
                ends.setdefault(asks_in(run), set()).add((sent, run_liars(pact, run)))
            logs = [asks for asks in ends if len(asks) <= 7 - len(pact.names)]
            for asks in random.Random(753).sample(logs, min(25, len(logs))):
                log = tuple((hand, moment, "void") for hand, moment in asks)
                shown = {name for _, moment in asks for name in moment}
                for family in all_families(pact.hands):
                    fitting = {sent for sent, liars in ends[asks] if in_family(family, liars)}
                    if not in_family(family, log_liars(pact, log, ())):
                        self.assertEqual(fitting, set())
                        continue
                    bounds = found_bounds(pact, family, log)
                    told = {moment for moment in naive_moments(pact) if shown <= set(moment) and any(
                        set(moment) <= set(bound) for bound in bounds)}
                    self.assertEqual(fitting, told)

    def test_errors(self):
        pact = base_pact()
        for value, at in NO_LOGS:
            self.assertEqual(raised(InvalidAsk, found_bounds, pact, ((),), value), at)
        self.assertEqual(raised(InvalidFamily, found_bounds, pact, (("c",),), None), 0)
        self.assertEqual(raised(Refused, found_bounds, pact, (("b",),), LOG), "liars")
        self.assertEqual(found_bounds(pact=pact, family=((),), log=()), (("m", "n", "o", "p"),))
        self.assertEqual(found_bounds(pact, ONE_LIES, LOG[:2]), (("m", "n", "o"),))
        self.assertEqual(found_bounds(loose_pact((1, 1)), ONE_LIES, (("a", (), "void"), ("b", (), "void"))),
                         (("aaa",), ("baa",)))


class BlamingTest(unittest.TestCase):
    def test_against_the_words(self):
        found = []
        for pact, log, _ in tried(754, 40):
            history = first_history(pact, log)
            hands = sorted(pact.hands)
            wrong = [lot for lot in subsets(hands) if first_wrong_answer(pact, (lot,), history) is not None]
            least = [lot for lot in wrong if not any(set(other) < set(lot) for other in wrong)]
            self.assertEqual(blaming_lots(pact, log), tuple(least))
            excusing = excusing_family(pact, log)
            free = [lot for lot in subsets(hands) if lot not in wrong]
            self.assertEqual(excusing is None, () in wrong)
            if excusing is not None:
                self.assertEqual([lot for lot in subsets(hands) if in_family(excusing, lot)], free)
            for family in all_families(hands):
                right = excusing is not None and all(in_family(excusing, lot) for lot in family)
                self.assertEqual(first_wrong_answer(pact, family, history) is None, right)
            found.append(0 if excusing is None else 1 if least else 2)
        for kind in range(3):
            self.assertGreater(found.count(kind), 20)

    def test_edges(self):
        pact = base_pact()
        self.assertEqual((blaming_lots(pact, ()), excusing_family(pact, ())), ((), (("a", "b"),)))
        self.assertEqual((blaming_lots(pact, (("a", (), "bound"),)), excusing_family(pact, (("a", (), "bound"),))),
                         (((),), None))
        for value, at in NO_LOGS:
            for call in (blaming_lots, excusing_family):
                self.assertEqual(raised(InvalidAsk, call, pact, value), at)
        self.assertEqual(blaming_lots(pact=pact, log=(("a", ("m",), "void"), ("b", ("m", "n", "o", "p"), "void"))),
                         (("a",),))

    def test_six_hands(self):
        pact = chain_pact(tuple("fcabed"), 40)
        names = tuple(sorted(pact.names))
        shown = [tuple(sorted(pact.names[:many])) for many in (1, 3, 6, 20, 33)]
        log = tuple((hand, moment, "void") for hand, moment in zip("fcabe", shown)) + (("d", names, "bound"),)
        history = first_history(pact, log)
        for lot in blaming_lots(pact, log):
            self.assertIsNotNone(first_wrong_answer(pact, (lot,), history))
        excusing = excusing_family(pact, log)
        self.assertIsNone(None if excusing is None else first_wrong_answer(pact, excusing, history))


class BlameTest(unittest.TestCase):
    def test_against_the_words(self):
        rng, found = random.Random(755), []
        for pact, log, moment in tried(755, 60):
            family = rng.choice(all_families(pact.hands))
            history = first_history(pact, log)
            wrongs = run_wrongs(pact, log_run(pact, log, moment), [answer for _, _, answer in history])
            liars = log_liars(pact, log, moment)
            if not wrongs:
                expected = None
            elif not in_family(family, liars):
                expected = ("liars", liars)
            else:
                expected = ("notary", first_wrong_answer(pact, family, history))
                self.assertIsInstance(expected[1], int)
            self.assertEqual(blame(pact, family, log, moment), expected)
            found.append(expected and expected[0])
        for kind in (None, "liars", "notary"):
            self.assertGreater(found.count(kind), 15)

    def test_somebody_is_to_blame_in_any_run(self):
        rng, many = random.Random(756), 0
        for pact in small_pacts(756, 60) + close_pacts(756, 60, notes=(5, 8)):
            for _ in range(5):
                run = random_run(rng, pact, most=12)
                heard = asks_in(run)
                log = tuple((hand, moment, rng.choice(("bound", "void"))) for hand, moment in heard)
                history = first_history(pact, log)
                sent = tuple(sorted(event[1] for event in run if event[0] == "send"))
                family = rng.choice(all_families(pact.hands))
                wrongs = run_wrongs(pact, run, [answer for _, _, answer in history])
                if wrongs and in_family(family, run_liars(pact, run)):
                    word, at = blame(pact, family, log, sent)
                    self.assertEqual(word, "notary")
                    ahead = tuple((hand, moment) for hand, moment, _ in history[:at + 1])
                    self.assertTrue(in_family(family, heard_liars(pact, ahead)))
                    many += 1
        self.assertGreater(many, 60)

    def test_errors(self):
        pact = base_pact()
        self.assertEqual(raised(InvalidFamily, blame, pact, (("c",),), None, None), 0)
        self.assertEqual(raised(InvalidAsk, blame, pact, ((),), (None,), None), 0)
        self.assertEqual(raised(InvalidMoment, blame, pact, ((),), (), ("n",)), 0)
        self.assertIsNone(blame(pact=pact, family=((),), log=(), found=tuple(notes_of(pact, "a")[:1])))
        log = (("a", ("m",), "void"), ("b", ("m", "n", "o", "p"), "void"))
        self.assertEqual(blame(pact, ((),), log, ()), ("liars", ("a",)))
        self.assertEqual(blame(pact, ONE_LIES, log, ()), ("notary", 1))


if __name__ == "__main__":
    unittest.main()
