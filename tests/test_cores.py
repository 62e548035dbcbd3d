"""[83] to [85]: futures, core notes, tables, and renamings of hands."""

import itertools
import math
import random
import time
import unittest

from boundorvoid.alike import walk_apart, walk_note
from boundorvoid.cores import core_fault, core_notes, core_table, one_form, same_future, tabled_pact, turnings
from boundorvoid.errors import NoName
from boundorvoid.forms import bare_form
from boundorvoid.heights import next_note
from boundorvoid.pacts import Pact, hand_of, lies_under, notes_of, ready_note, whole_paper
from boundorvoid.texts import read_pact

from tests.helpers import base_pact, chain_pact, close_pacts, note_names, raised, small_pacts
from tests.test_alike import all_walks, turned

ROWS = ["hands a b", "note m a", "note n b m", "note o a n", "note p b o", "note q a p", "ready m n"]
TABLE = (("a", "b"), (0, 0), (((0, 0), (1, 1)), ((1, 0), (2, 1))))


def naive_future(pact, note, walks):
    """The walks of some that lead on from a note within the whole paper; None outside."""
    whole = whole_paper(pact)
    if note not in whole:
        return None
    found = set()
    for walk in walks:
        at = note
        for hand in walk:
            at = next_note(pact, hand, at) if at in whole else at
            if at is None:
                break
        if at in whole:
            found.add(walk)
    return found


def pacts(seed, many):
    return small_pacts(seed, many, notes=(3, 8)) + close_pacts(seed, many, notes=(4, 8)) + [base_pact(), base_pact("o")]


def naive_met(pact, walks):
    found = {walk_note(pact, hand, walk) for hand in pact.hands for walk in walks}
    return found - {None}


class FutureTest(unittest.TestCase):
    def test_against_all_walks(self):
        found = []
        for pact in pacts(830, 25):
            walks = all_walks(pact, len(pact.names) if len(pact.hands) == 2 else 6)
            futures = {note: naive_future(pact, note, walks) for note in pact.names}
            for one, other in itertools.product(pact.names, repeat=2):
                expected = futures[one] == futures[other]
                self.assertIs(same_future(pact, one, other), expected)
                if futures[one] is not None and futures[other] is not None:
                    if hand_of(pact, one) != hand_of(pact, other):
                        self.assertFalse(expected)
                    elif lies_under(pact, one, other):
                        self.assertLessEqual(futures[other], futures[one])
                    found.append(one != other and expected)
            met = naive_met(pact, walks)
            cores = [note for note in met if not any(
                futures[other] == futures[note] and lies_under(pact, note, other) and other != note
                for other in met if hand_of(pact, other) == hand_of(pact, note))]
            self.assertEqual(core_notes(pact), tuple(sorted(cores)))
        self.assertGreater(min(found.count(True), found.count(False)), 15)

    def test_errors(self):
        pact = base_pact("o")
        self.assertEqual(raised(NoName, same_future, pact, "x", "y"), "x")
        self.assertEqual(raised(NoName, same_future, pact, "m", "y"), "y")
        self.assertFalse(same_future(pact=pact, one="o", other="p"))
        loose = base_pact("m n")
        self.assertTrue(same_future(loose, "o", "p"))


class TableTest(unittest.TestCase):
    def test_against_the_words(self):
        outside = 0
        for pact in pacts(831, 90):
            hands, starts, steps = core_table(pact)
            self.assertEqual(hands, tuple(sorted(pact.hands)))
            cores = {hand: [note for note in notes_of(pact, hand) if note in core_notes(pact)] for hand in hands}

            def level(hand, note):
                alike = [k for k, core in enumerate(cores[hand]) if note in whole_paper(pact) and
                         same_future(pact, core, note)] if note is not None else []
                return alike[0] if alike else len(cores[hand])

            self.assertEqual(starts, tuple(level(hand, ready_note(pact, hand)) for hand in hands))
            self.assertEqual(steps, tuple(tuple(tuple(level(other, next_note(pact, other, core)) for other in hands)
                                                for core in cores[hand]) for hand in hands))
            outside += any(start == len(own) for start, own in zip(starts, steps))
        self.assertGreater(outside, 10)

    def test_an_example(self):
        pact = read_pact("\n".join(ROWS + ["paper p"]))
        self.assertEqual(core_table(pact), TABLE)
        self.assertEqual((core_notes(pact), core_fault(TABLE)), (("m", "n", "o", "p"), None))

    def test_alike_exactly_if_the_tables_are_equal(self):
        rng, alike = random.Random(832), []
        groups = {}
        for pact in pacts(832, 100) + small_pacts(833, 150, hands=(2, 2), notes=(2, 5)):
            groups.setdefault(tuple(sorted(pact.hands)), []).append(pact)
        for group in groups.values():
            for one in group:
                for other in rng.sample(group, min(6, len(group))) + [turned(one)]:
                    expected = walk_apart(one, other) is None
                    self.assertEqual(core_table(one) == core_table(other), expected)
                    alike.append(expected)
        self.assertGreater(min(alike.count(True), alike.count(False)), 100)


def naive_fault(table):
    """The first fault, told as the document lists them."""
    hands, starts, steps = table
    tops = [len(own) for own in steps]
    for h in range(len(hands)):
        if starts[h] > tops[h]:
            return ("start", h)
    for h in range(len(hands)):
        for i in range(tops[h]):
            step = steps[h][i]
            wrong = any(step[g] > tops[g] for g in range(len(hands))) or step[h] != i
            wrong = wrong or i > 0 and any(step[g] < steps[h][i - 1][g] for g in range(len(hands)))
            for g in range(len(hands)):
                if g != h and not wrong and step[g] < tops[g]:
                    above = steps[g][step[g]]
                    wrong = above[h] <= i or any(above[k] < step[k] for k in range(len(hands)))
            if wrong:
                return ("step", h, i)
    met, added = set(), {(h, starts[h]) for h in range(len(hands)) if starts[h] < tops[h]}
    while added - met:
        met |= added
        added = {(g, steps[h][i][g]) for h, i in met for g in range(len(hands)) if steps[h][i][g] < tops[g]}
    for h in range(len(hands)):
        for i in range(tops[h]):
            if (h, i) not in met:
                return ("met", h, i)
    futures = {(h, i): frozenset(table_walks(steps, (h, i), 9)) for h in range(len(hands)) for i in range(tops[h])}
    for h in range(len(hands)):
        for i in range(1, tops[h]):
            if futures[h, i] == futures[h, i - 1]:
                return ("alike", h, i)
    return None


def table_walks(steps, place, most):
    """All walks of at most so many hands, none twice running, that lead on from a level."""
    walks, ends = {()}, [((), place)]
    for _ in range(most):
        ends = [(walk + (g,), (g, level)) for walk, (h, i) in ends for g, level in enumerate(steps[h][i])
                if g != h and level < len(steps[g])]
        walks |= {walk for walk, _ in ends}
    return walks


def changed(rng, table):
    """The table with one number, start or level changed."""
    hands, starts, steps = table
    starts, steps = list(starts), [[list(step) for step in own] for own in steps]
    places = [(h, i) for h, own in enumerate(steps) for i in range(len(own))]
    kind = rng.choice(("start", "step", "step", "step", "drop", "double"))
    if kind == "start" or not places:
        h = rng.randrange(len(hands))
        starts[h] = max(0, starts[h] + rng.choice((-1, 1, 2)))
    else:
        h, i = rng.choice(places)
        if kind == "step":
            g = rng.randrange(len(hands))
            steps[h][i][g] = max(0, steps[h][i][g] + rng.choice((-1, 1)))
        elif kind == "drop":
            del steps[h][i]
        else:
            steps[h].insert(i, list(steps[h][i]))
    return hands, tuple(starts), tuple(tuple(map(tuple, own)) for own in steps)


class FaultTest(unittest.TestCase):
    def test_told_back(self):
        for pact in pacts(834, 120) + small_pacts(835, 40, hands=(3, 5), notes=(6, 14)):
            table = core_table(pact)
            self.assertIsNone(core_fault(table))
            back = tabled_pact(table)
            self.assertEqual(core_table(back), table)
            self.assertIsNone(walk_apart(pact, back))
            self.assertEqual(bare_form(back), back)
            # No pact that is alike has, of any hand, fewer notes.
            for hand in pact.hands:
                self.assertLessEqual(len(notes_of(back, hand)), len(notes_of(pact, hand)))

    def test_changed_tables(self):
        rng, kinds = random.Random(836), []
        for pact in pacts(836, 300):
            for _ in range(3):
                table = changed(rng, core_table(pact))
                if rng.random() < 0.3:
                    table = changed(rng, table)
                fault = core_fault(table)
                self.assertEqual(fault, naive_fault(table), table)
                back = tabled_pact(table)
                self.assertEqual(back is None, fault is not None)
                if back is not None:
                    self.assertEqual(core_table(back), table)
                kinds.append(fault and fault[0])
        for kind in ("start", "step", "met", "alike", None):
            self.assertGreater(kinds.count(kind), 10, kind)

    def test_all_small_tables(self):
        faults = []
        for sizes in itertools.product(range(3), repeat=2):
            numbers = [range(size + 1) for size in sizes]
            steps = [list(itertools.product(itertools.product(*numbers), repeat=size)) for size in sizes]
            for starts in itertools.product(*numbers):
                for told in itertools.product(*steps):
                    table = (("x", "y"), starts, told)
                    fault = core_fault(table)
                    self.assertEqual(fault, naive_fault(table))
                    if fault is None:
                        self.assertEqual(core_table(tabled_pact(table)), table)
                    faults.append(fault)
        self.assertGreater(faults.count(None), 8)

    def test_these_are_all_tables_of_pacts(self):
        found = set()
        for pact in small_pacts(837, 400, hands=(2, 2), notes=(2, 6)):
            _, starts, steps = core_table(pact)
            if max(map(len, steps)) < 3:
                self.assertIsNone(core_fault((("x", "y"), starts, steps)))
                found.add((starts, steps))
        self.assertGreater(len(found), 8)

    def test_each_kind_and_two_at_once(self):
        hands, starts, steps = TABLE
        self.assertEqual(core_fault((hands, (3, 3), steps)), ("start", 0))
        self.assertEqual(core_fault((hands, (0, 3), (((0, 9), (1, 1)), steps[1]))), ("start", 1))
        self.assertEqual(core_fault((hands, starts, (((0, 3), (1, 1)), steps[1]))), ("step", 0, 0))
        self.assertEqual(core_fault((hands, starts, (((0, 0), (0, 1)), steps[1]))), ("step", 0, 1))
        self.assertEqual(core_fault((hands, starts, (((0, 1), (1, 0)), ((1, 0), (2, 1))))), ("step", 0, 1))
        self.assertEqual(core_fault((hands, starts, (steps[0], ((0, 0), (2, 1))))), ("step", 0, 0))
        self.assertEqual(core_fault((hands, (1, 1), steps)), ("met", 0, 0))
        self.assertEqual(core_fault((hands, (2, 2), steps)), ("met", 0, 0))
        self.assertEqual(core_fault((hands, (0, 0), (((0, 1), (1, 1)), ((1, 0), (2, 1))))), ("alike", 0, 1))
        self.assertEqual(core_fault((hands, (1, 1), (((0, 1), (1, 1)), ((1, 0), (2, 1))))), ("met", 0, 0))
        self.assertIsNone(core_fault(table=(hands, (0, 0), ((), ()))))
        self.assertEqual(core_fault((hands, (0, 1), ((), ((0, 0),)))), ("met", 1, 0))

    def test_tables_without_levels(self):
        pact = tabled_pact((("a", "b"), (0, 0), ((), ())))
        notes = (("a", "a", ()), ("b", "a", ()), ("c", "b", ()), ("d", "b", ()))
        self.assertEqual(pact, Pact(("a", "b"), notes, ("b", "d"), ("a", "c")))
        pact = tabled_pact((("a", "b"), (0, 0), ((), ((0, 0),))))
        notes = (("a", "a", ()), ("b", "a", ()), ("c", "b", ()))
        self.assertEqual(pact, Pact(("a", "b"), notes, ("b", "c"), ("a", "c")))
        self.assertEqual(core_table(pact), (("a", "b"), (0, 0), ((), ((0, 0),))))

    def test_names_and_notes(self):
        pact = tabled_pact(TABLE)
        notes = (("a", "a", ()), ("c", "b", ("a",)), ("b", "a", ("c",)), ("d", "b", ("b",)))
        self.assertEqual(pact, Pact(("a", "b"), notes, ("a", "c"), ("d",)))
        # A ready note behind all levels comes last, and alone is not in the paper.
        late = read_pact("\n".join(ROWS[:-1] + ["ready q n", "paper p"]))
        table = core_table(late)
        back = tabled_pact(table)
        self.assertEqual(table[1][0], len(table[2][0]))
        self.assertEqual(ready_note(back, "a"), notes_of(back, "a")[-1])
        self.assertNotIn(ready_note(back, "a"), whole_paper(back))
        self.assertEqual(set(whole_paper(back)), set(back.names) - {ready_note(back, "a")})

    def test_forty_levels(self):
        letters = [chr(97 + k) for k in range(26)] + [one for one in note_names(14)]
        for hands in (("a", "b"), tuple("abcdef")):
            pact = chain_pact(hands, 40)
            table = core_table(pact)
            self.assertEqual(sum(map(len, table[2])), 40)
            back = tabled_pact(table=table)
            self.assertEqual(sorted(back.names), sorted(letters))
            self.assertEqual(core_table(back), table)
            own = [notes_of(back, hand) for hand in back.hands]
            self.assertEqual([name for row in own for name in row], letters)

    def test_more_than_forty_notes(self):
        levels = core_table(chain_pact(("a", "b"), 40))[2]
        self.assertEqual(core_fault((("a", "b"), (0, 0), levels)), None)
        late = (("a", "b", "c"), (0, 0, 0), tuple(tuple(step + (0,) for step in own) for own in levels) + ((),))
        self.assertIsNone(core_fault(late))
        self.assertIsNone(tabled_pact(late))
        fewer = core_table(chain_pact(("a", "b"), 38))[2]
        fits = (("a", "b", "c"), (0, 0, 0), tuple(tuple(step + (0,) for step in own) for own in fewer) + ((),))
        self.assertEqual(len(tabled_pact(fits).notes), 40)
        self.assertEqual(core_table(tabled_pact(fits)), fits)


def renamed(pact, names):
    """The pact with other names for its hands."""
    return Pact([names[hand] for hand in pact.hands], [(note, names[hand], waits) for note, hand, waits in pact.notes],
                pact.ready, pact.paper)


class FormTest(unittest.TestCase):
    def test_equal_exactly_if_some_renaming_makes_them_alike(self):
        rng, same, groups = random.Random(838), [], {}
        for pact in small_pacts(838, 120, hands=(2, 3), notes=(3, 6)) + close_pacts(838, 60, notes=(4, 7)):
            groups.setdefault(len(pact.hands), []).append(pact)
        for group in groups.values():
            for one in group:
                mixed = rng.sample(one.hands, len(one.hands))
                for other in rng.sample(group, 4) + [renamed(one, dict(zip(one.hands, mixed)))]:
                    orders = itertools.permutations(sorted(one.hands))
                    alike = any(walk_apart(one, renamed(other, dict(zip(sorted(other.hands), order)))) is None
                                for order in orders)
                    self.assertEqual(one_form(one) == one_form(other), alike)
                    same.append(alike)
        self.assertGreater(min(same.count(True), same.count(False)), 60)

    def test_least_of_all_orders(self):
        for pact in pacts(839, 40):
            hands = sorted(pact.hands)
            forms = [core_table(renamed(pact, dict(zip(hands, order))))[1:] for order in itertools.permutations(hands)]
            self.assertEqual(one_form(pact), min(forms))
            # As many unlike pacts come as there are orders for each turning.
            self.assertEqual(len(set(forms)) * len(turnings(pact)), math.factorial(len(hands)))

    def test_turnings(self):
        sizes = []
        loose = Pact(tuple("abc"), [(note, note, ()) for note in "abc"], tuple("abc"), tuple("abc"))
        behind = [("d", "a", ("b",)), ("e", "b", ("c",)), ("f", "c", ("a",))]
        ring = Pact(tuple("abc"), loose.notes + tuple(behind), tuple("abc"), tuple("def"))
        for pact in pacts(840, 60) + [loose, ring]:
            hands = sorted(pact.hands)
            expected = [order for order in itertools.permutations(hands)
                        if walk_apart(pact, renamed(pact, dict(zip(hands, order)))) is None]
            self.assertEqual(turnings(pact), tuple(expected))
            group = set(expected)
            for one, other in itertools.product(expected, repeat=2):
                self.assertIn(tuple(one[hands.index(hand)] for hand in other), group)
            sizes.append(len(expected))
        self.assertEqual(sizes[-2:], [6, 3])
        self.assertGreater(sizes.count(2), 5)
        self.assertEqual(turnings(pact=base_pact()), (("a", "b"),))

    def test_six_hands(self):
        start = time.monotonic()
        pact = Pact(tuple("abcdef"), [(note, note, ()) for note in "abcdef"], tuple("abcdef"), tuple("abcdef"))
        self.assertEqual(len(turnings(pact)), 720)
        chain = chain_pact(tuple("fcabed"), 40)
        self.assertEqual(one_form(chain), one_form(chain_pact(tuple("abcdef"), 40)))
        self.assertEqual(turnings(chain), (tuple("abcdef"),))
        self.assertLess(time.monotonic() - start, 5)


if __name__ == "__main__":
    unittest.main()
