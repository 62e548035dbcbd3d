"""[61] to [63]: several offices in the place of one notary."""

import itertools
import random
import unittest

from boundorvoid.climbs import row_moments
from boundorvoid.court import Just, Torn, court
from boundorvoid.errors import InvalidFamily, InvalidOffices, InvalidSize, NoName, Refused
from boundorvoid.families import in_family, sized_family
from boundorvoid.heights import next_note
from boundorvoid.moments import moment_levels
from boundorvoid.offices import Offices, alternate_climb, alternate_moments, ask_known, deaf_pair, offices_court
from boundorvoid.offices import sized_offices
from boundorvoid.pacts import key_note, lies_under, ready_note, whole_paper
from boundorvoid.rules import plain_answer
from boundorvoid.runs import run_liars
from boundorvoid.wrongs import run_wrongs

from tests.helpers import all_families, base_pact, close_pacts, raised, random_run, small_pacts, subsets

NAMES = ("x", "y", "z")
COUNTERS = (("a", (("x",), ("y", "z"))), ("b", (("x", "y"),)))
TELLS = (("x", "y"), ("y", "z"))
FORGETS = (("x",), ("y",))
ONE_LIES = (("a",), ("b",))


def random_offices(rng, hands=("a", "b")):
    names = tuple(sorted(rng.sample(("p", "q", "r", "s"), rng.randint(1, 4))))
    pairs = [(one, other) for one in names for other in names if one != other]
    tells = tuple(sorted(rng.sample(pairs, rng.randint(0, len(pairs)))))
    lots = [lot for lot in subsets(names) if lot]
    counters = tuple((hand, tuple(sorted(rng.sample(lots, rng.randint(1, min(3, len(lots))))))) for hand in hands)
    return Offices(names, tells, counters, rng.choice(all_families(names)))


class OfficesTest(unittest.TestCase):
    def test_what_is_kept(self):
        offices = Offices(NAMES, TELLS, COUNTERS, FORGETS)
        self.assertEqual((offices.names, offices.tells, offices.counters, offices.forgets),
                         (NAMES, TELLS, COUNTERS, FORGETS))
        named = Offices(names=NAMES, tells=TELLS, counters=COUNTERS, forgets=FORGETS)
        self.assertEqual(named, offices)
        for other in (Offices(NAMES, (), COUNTERS, FORGETS), Offices(NAMES, TELLS, COUNTERS, ((),)),
                      Offices(NAMES + ("zz",), TELLS, COUNTERS, FORGETS),
                      Offices(NAMES, TELLS, (("a", (("x",),)), COUNTERS[1]), FORGETS), None, NAMES, base_pact()):
            self.assertNotEqual(offices, other)

    def test_edges(self):
        six = tuple("uvwxyz")
        Offices(("x",), (), (("a", (("x",),)), ("b", (("x",),))), ((),))
        Offices(six, (("u", "v"), ("v", "u")), tuple((hand, ((one,) for one in six) and (six,)) for hand in "abcdef"),
                (six,))

    def refused(self, word, **changed):
        told = {"names": NAMES, "tells": TELLS, "counters": COUNTERS, "forgets": FORGETS}
        self.assertEqual(raised(InvalidOffices, Offices, **{**told, **changed}), word)

    def test_names(self):
        for names in (None, True, 3, "xyz", [], list(NAMES), (), ("y", "x", "z"), ("x", "x"), ("X",), ("",), (1,),
                      (True,), (None,), ("abcdefghi",), ("x", ["y"]), tuple("tuvwxyz"), (("x",),)):
            self.refused("names", names=names)

    def test_tells(self):
        for tells in (None, True, 3, "xy", [("x", "y")], (("x", "x"),), (("x", "u"),), (("u", "x"),), (["x", "y"],),
                      (("x", "y"), ("x", "y")), (("y", "z"), ("x", "y")), (("x",),), (("x", "y", "z"),), ("xy",),
                      (("x", 1),), (("x", True),), ((("x",), "y"),), (("x", ["y"]),)):
            self.refused("tells", tells=tells)

    def test_counters(self):
        good = COUNTERS[1]
        for wrong in (None, "a", ("a",), ("a", (("x",),), 1), ["a", (("x",),)], ("A", (("x",),)), (1, (("x",),)),
                      (True, (("x",),)), (["a"], (("x",),)), ("a", ()), ("a", [("x",)]), ("a", ("x",)),
                      ("a", (["x"],)), ("a", ((),)), ("a", (("u",),)), ("a", (("y", "x"),)), ("a", (("x", "x"),)),
                      ("a", (("y",), ("x",))), ("a", (("x",), ("x",))), ("a", ((), ("x",))), ("a", None),
                      ("a", ((1,),)), ("a", (("x", True),)), ("b", (("x",),)), ("c", (("x",),))):
            self.refused("counters", counters=(wrong, good))
        hands = tuple((hand, (("x",),)) for hand in "abcdefg")
        for counters in (None, True, "ab", [], list(COUNTERS), (), COUNTERS[:1], COUNTERS[::-1],
                         COUNTERS + COUNTERS[1:], hands):
            self.refused("counters", counters=counters)

    def test_forgets(self):
        for forgets in (None, True, 3, "x", [("x",)], (), ((), ("x",)), (("x",), ("x",)), (("y",), ("x",)),
                        (("x",), ("x", "y")), (("u",),), (["x"],), ((1,),), ((True,),), ("x",), (("y", "x"),)):
            self.refused("forgets", forgets=forgets)

    def test_the_first_wrong_part_is_told(self):
        self.refused("names", names=("x", "x"), tells=None, counters=None, forgets=None)
        self.refused("tells", tells=None, counters=None, forgets=None)
        self.refused("counters", counters=None, forgets=None)
        # Without z the others speak of a strange office.
        self.refused("tells", names=("x", "y"), counters=None)


class KnownTest(unittest.TestCase):
    def test_against_the_words(self):
        rng, found = random.Random(610), []
        for _ in range(300):
            offices = random_offices(rng)
            lot, other, gone = (rng.choice(subsets(offices.names)) for _ in range(3))
            expected = any(name in other and name not in gone and (name in lot or any(
                teller in lot and teller not in gone and (teller, name) in offices.tells for teller in offices.names))
                for name in offices.names)
            self.assertIs(ask_known(offices, lot, other, gone), expected)
            found.append(expected)
        self.assertGreater(min(found.count(True), found.count(False)), 50)

    def test_told_at_once_and_no_further(self):
        offices = Offices(NAMES, TELLS, COUNTERS, FORGETS)
        self.assertTrue(ask_known(offices, ("x",), ("y",), ()))
        self.assertFalse(ask_known(offices, ("x",), ("z",), ()))
        self.assertFalse(ask_known(offices, ("y",), ("x",), ()))
        self.assertFalse(ask_known(offices, ("x",), ("y",), ("x",)))
        self.assertFalse(ask_known(offices, ("x",), ("y",), ("y",)))
        self.assertTrue(ask_known(offices, ("x",), ("x",), ("y",)))


class DeafTest(unittest.TestCase):
    def test_against_the_words(self):
        rng, found = random.Random(611), []
        for _ in range(200):
            offices = random_offices(rng, rng.choice((("a", "b"), ("a", "b", "d"))))
            pairs = [(hand, lot, other, counter, gone)
                     for hand, lots in offices.counters for lot in lots
                     for other, counters in offices.counters if other != hand for counter in counters
                     for gone in offices.forgets if not ask_known(offices, lot, counter, gone)]
            self.assertEqual(deaf_pair(offices), pairs[0] if pairs else None)
            self.assertEqual(pairs, sorted(pairs))
            found.append(not pairs)
        self.assertGreater(min(found.count(True), found.count(False)), 15)

    def test_own_counters_do_not_matter(self):
        counters = (("a", (("x",), ("y",))), ("b", (("x", "y"),)))
        self.assertIsNone(deaf_pair(Offices(("x", "y"), (), counters, ((),))))
        self.assertEqual(deaf_pair(Offices(("x", "y"), (), counters, (("x",),))), ("a", ("x",), "b", ("x", "y"), ("x",)))

    def test_sized_offices(self):
        for size in range(1, 7):
            names = tuple("uvwxyz"[:size])
            everybody = tuple((one, other) for one in names for other in names if one != other)
            for many in range(1, size + 1):
                for lost in range(size + 1):
                    offices = sized_offices(names, ("a", "b"), many, lost)
                    told = Offices(names, everybody, offices.counters, offices.forgets)
                    lots = tuple(itertools.combinations(names, many))
                    gone = tuple(itertools.combinations(names, lost))
                    self.assertEqual(offices, Offices(names, (), (("a", lots), ("b", lots)), gone))
                    self.assertEqual(deaf_pair(offices) is None, 2 * many > size + lost)
                    self.assertEqual(deaf_pair(told) is None, many > lost)

    def test_sizes(self):
        for many in (0, 4, -1, True, False, None, "1", (1,), [1], 10 ** 30):
            self.assertEqual(raised(InvalidSize, sized_offices, NAMES, ("a", "b"), many, None), "many")
        for lost in (4, -1, True, False, None, "1", (1,), [0], 10 ** 30):
            self.assertEqual(raised(InvalidSize, sized_offices, NAMES, ("a", "b"), 1, lost), "lost")
        self.assertEqual(sized_offices(names=NAMES, hands=("a", "b"), many=3, lost=0).forgets, ((),))
        self.assertEqual(sized_offices(NAMES, tuple("abcdef"), 3, 3).forgets, (NAMES,))


class OfficesCourtTest(unittest.TestCase):
    def test_what_comes_first(self):
        deaf = sized_offices(NAMES, ("a", "b"), 1, 0)
        heard = sized_offices(NAMES, ("a", "b"), 2, 0)
        pact, torn = base_pact(), base_pact("n")
        self.assertEqual(offices_court(pact, ONE_LIES, heard), court(pact, ONE_LIES))
        self.assertEqual(offices_court(pact, ONE_LIES, deaf), ("a", ("x",), "b", ("y",), ()))
        for offices in (deaf, heard):
            self.assertEqual(offices_court(torn, ONE_LIES, offices), Torn("b", ("a",)))
        self.assertEqual(offices_court(pact=pact, family=((),), offices=heard), court(pact, ((),)))

    def test_errors(self):
        pact, strange = base_pact(), sized_offices(NAMES, ("a", "c"), 2, 0)
        self.assertEqual(raised(InvalidFamily, offices_court, pact, (("c",),), strange), 0)
        self.assertEqual(raised(Refused, offices_court, pact, ((),), strange), "hands")
        more = sized_offices(NAMES, ("a", "b", "c"), 2, 0)
        self.assertEqual(raised(Refused, offices_court, base_pact("n"), ONE_LIES, more), "hands")

    def test_hands_in_another_order(self):
        for pact in close_pacts(612, 20):
            hands = tuple(sorted(pact.hands))
            offices = sized_offices(NAMES, hands, 2, 0)
            self.assertEqual(offices_court(pact, ((),), offices), court(pact, ((),)))


def answers_at(pact, offices, asks, gone):
    """What counters answer to asks (hand, moment, counter) by what they know, while some offices forget."""
    answers = []
    for at, (hand, moment, counter) in enumerate(asks):
        known = [(asks[k][0], asks[k][1], answers[k]) for k in range(at)
                 if ask_known(offices, asks[k][2], counter, gone)]
        if any(answer == "bound" for _, _, answer in known):
            answers.append("bound")
            continue
        firsts = {}
        for entry in known:
            firsts.setdefault(entry[0], entry)
        answers.append(plain_answer(pact, tuple(firsts.values()), hand, moment))
    return answers


def wronged_by(pact, run, asks, answers):
    """Honest hands that are wronged, whoever was told what at any counter."""
    liars = run_liars(pact, run)
    bounds = [at for (at, _), answer in zip(asks, answers) if answer == "bound"]
    sent = {event[1]: at for at, event in enumerate(run) if event[0] == "send"}
    filled = all(name in sent for name in whole_paper(pact))
    found = []
    for hand in pact.hands:
        if hand in liars:
            continue
        told = [answer for (_, event), answer in zip(asks, answers) if event[1] == hand]
        if any(sent.get(ready_note(pact, hand), 999) > at for at in bounds) or "void" in told and (bounds or filled):
            found.append(hand)
    return found


class ServedTest(unittest.TestCase):
    def test_nobody_honest_is_wronged_where_all_know_enough(self):
        rng, tried = random.Random(613), 0
        for pact in close_pacts(614, 250, notes=(5, 7)):
            hands = tuple(sorted(pact.hands))
            family = rng.choice(all_families(hands))
            offices = random_offices(rng, hands)
            if not isinstance(offices_court(pact, family, offices), Just):
                continue
            counters = dict(offices.counters)
            for _ in range(12):
                run = random_run(rng, pact, most=16, ask=0.45)
                if not in_family(family, run_liars(pact, run)):
                    continue
                gone = rng.choice(offices.forgets)
                asks = [(at, event) for at, event in enumerate(run) if event[0] == "ask"]
                told = [(event[1], event[2], rng.choice(counters[event[1]])) for _, event in asks]
                self.assertEqual(wronged_by(pact, run, asks, answers_at(pact, offices, told, gone)), [])
                tried += len(asks) > 1
        self.assertGreater(tried, 80)

    def test_with_one_office_it_is_as_ever(self):
        rng = random.Random(615)
        offices = Offices(("x",), (), (("a", (("x",),)), ("b", (("x",),))), ((),))
        for _ in range(40):
            run = random_run(rng, base_pact("n"), most=10, ask=0.5)
            asks = [(at, event) for at, event in enumerate(run) if event[0] == "ask"]
            if len({event[1] for _, event in asks}) < len(asks):
                continue
            answers = answers_at(base_pact("n"), offices, [(event[1], event[2], ("x",)) for _, event in asks], ())
            wronged = [hand for hand, _, _ in run_wrongs(base_pact("n"), run, answers)]
            self.assertEqual(wronged_by(base_pact("n"), run, asks, answers), wronged)


class AlternateTest(unittest.TestCase):
    def test_against_the_words(self):
        longest = 0
        for pact in small_pacts(616, 80) + close_pacts(616, 80):
            for hand, one, other in itertools.product(pact.hands, repeat=3):
                if one == other:
                    continue
                note, found, turn = ready_note(pact, hand), [], (one, other)
                while True:
                    note = next_note(pact, turn[0], note)
                    if note is None or not lies_under(pact, note, key_note(pact, turn[0])):
                        break
                    found.append(note)
                    turn = turn[::-1]
                self.assertEqual(alternate_climb(pact, hand, one, other), tuple(found))
                moments = alternate_moments(pact, hand, one, other)
                self.assertEqual(moments, tuple(
                    tuple(sorted(name for name in pact.names if not lies_under(pact, note, name)))
                    for note in (ready_note(pact, hand), *found)))
                longest = max(longest, len(found))
        self.assertGreater(longest, 4)

    def test_each_must_be_told_void(self):
        for pact in close_pacts(617, 60):
            for hand, one, other in itertools.product(pact.hands, repeat=3):
                if one == other:
                    continue
                moments = alternate_moments(pact, hand, one, other)
                self.assertEqual(moments[:2], row_moments(pact, hand, (one, other))[:len(moments)])
                self.assertNotIn(ready_note(pact, hand), moments[0])
                turns = [(one, other)[at % 2] for at in range(len(moments))]
                for at, (ahead, behind) in enumerate(zip(moments, moments[1:])):
                    # Who was told void at one counter has sent nothing since: the other counter must not say bound.
                    number = pact.hands.index(turns[at])
                    self.assertTrue(set(ahead) <= set(behind))
                    self.assertEqual(moment_levels(pact, ahead)[number], moment_levels(pact, behind)[number])
                self.assertIn(key_note(pact, turns[-1]), moments[-1])

    def deaf_runs(self, pact, turns, moments):
        """Runs in which nobody lies, each with the numbers of the moments that are shown in it."""
        def sends(moment, ahead=()):
            return tuple(("send", name) for name in pact.names if name in moment and name not in ahead)

        found = [(sends(moments[0]) + (("ask", turns[0], moments[0]),), (0,))]
        for at in range(1, len(moments)):
            one, other = moments[at - 1:at + 1]
            run = sends(one) + (("ask", turns[at - 1], one),) + sends(other, one) + (("ask", turns[at], other),)
            found.append((run, (at - 1, at)))
        last = sends(moments[-1]) + (("ask", turns[-1], moments[-1]),) + sends(whole_paper(pact), moments[-1])
        return found + [(last, (len(moments) - 1,))]

    def test_no_rules_of_two_deaf_counters_wrong_nobody(self):
        lengths = []
        for pact in close_pacts(619, 60) + [base_pact(), base_pact("n")]:
            for hand, one, other in itertools.product(pact.hands, repeat=3):
                if one == other:
                    continue
                moments = alternate_moments(pact, hand, one, other)
                turns = [(one, other)[at % 2] for at in range(len(moments))]
                runs = self.deaf_runs(pact, turns, moments)
                self.assertTrue(all(run_liars(pact, run) == () for run, _ in runs))
                for answers in itertools.islice(itertools.product(("bound", "void"), repeat=len(moments)), 128):
                    # Neither counter knows what the other one heard, so an answer hangs on the moment alone.
                    self.assertTrue(any(run_wrongs(pact, run, [answers[at] for at in places]) for run, places in runs))
                self.assertTrue(any(run_wrongs(pact, run, ["void"] * len(places)) for run, places in runs))
                lengths.append(len(moments))
        self.assertGreater(max(lengths), 4)

    def test_edges(self):
        pact = base_pact("n")
        self.assertEqual(alternate_climb(base_pact(), "a", "a", "b"), ("m", "n", "o", "p"))
        self.assertEqual(alternate_climb(base_pact("o"), "b", "b", "a"), ("n", "o"))
        self.assertEqual(alternate_climb(pact, "b", "a", "b"), ())
        self.assertEqual(alternate_moments(pact, "b", "a", "b"), (("m",),))
        self.assertEqual(alternate_climb(base_pact(), "a", "b", "b")[:1], ("n",))
        outside = small_pacts(618, 60)
        outside = [one for one in outside if ready_note(one, one.hands[0]) not in whole_paper(one)]
        for one in outside:
            self.assertEqual(alternate_climb(one, *one.hands[:1], *one.hands[:2]), ())
            self.assertEqual(len(alternate_moments(one, *one.hands[:1], *one.hands[:2])), 1)
        self.assertTrue(outside)

    def test_errors(self):
        pact = base_pact()
        for call in (alternate_climb, alternate_moments):
            self.assertEqual(raised(NoName, call, pact, "u", "v", "w"), "u")
            self.assertEqual(raised(NoName, call, pact, "a", "v", "w"), "v")
            self.assertEqual(raised(NoName, call, pact, "a", "b", "w"), "w")
            self.assertEqual(raised(NoName, call, base_pact("n"), "b", "a", "w"), "w")
            self.assertTrue(call(pact=pact, hand="a", one="a", other="b"))

    def test_sized_families_agree(self):
        self.assertEqual(sized_offices(NAMES, ("a", "b"), 2, 1).forgets, sized_family(NAMES, 1))


if __name__ == "__main__":
    unittest.main()
