"""[64] to [67]: hands that act as one, and pacts behind one another."""

import itertools
import random
import unittest

from boundorvoid.climbs import row_holds, row_moments
from boundorvoid.court import Just, Torn, court
from boundorvoid.errors import InvalidRow, NoName, Refused
from boundorvoid.families import all_lots, family_of, in_family, sized_family
from boundorvoid.pacts import Pact, lies_under, ready_note, whole_paper
from boundorvoid.unions import group_court, group_moments, members_row, merged_pact, need_groups, pacts_behind
from boundorvoid.unions import sum_family

from tests.helpers import all_families, all_rows, base_pact, chain_pact, close_pacts, naive_moments, naive_under
from tests.helpers import note_names, owners_of, raised, random_run, small_pacts, subsets


def all_groups(hands):
    """All ways to put some hands into groups."""
    hands = sorted(hands)
    if not hands:
        return [()]
    found = []
    for rest in subsets(hands[1:]):
        group = (hands[0], *rest)
        found.extend(tuple(sorted((group, *others))) for others in all_groups(set(hands) - set(group)))
    return found


def grouped(seed, many, hands=(3, 4)):
    rng = random.Random(seed)
    for pact in small_pacts(seed, many, hands=hands, notes=(5, 9)) + close_pacts(seed, 2 * many, hands=hands):
        yield pact, rng.choice(all_groups(pact.hands))


def naive_group_moments(pact, groups, hand, row):
    under, owners = naive_under(pact.notes), owners_of(pact)
    moments = [{name for name in pact.names if ready_note(pact, hand) not in under[name]}]
    for group in row[:-1]:
        members = [lot for lot in groups if lot[0] == group][0]
        held = {name for name in pact.names if owners[name] in members and name not in moments[-1]}
        moments.append({name for name in pact.names if not under[name] & held})
    return tuple(tuple(sorted(moment)) for moment in moments)


def naive_holds(pact, groups, hand, row):
    members = [lot for lot in groups if lot[0] == row[-1]][0]
    last = naive_group_moments(pact, groups, hand, row)[-1]
    return any(owner in members and name in whole_paper(pact) and name not in last
               for name, owner in owners_of(pact).items())


class GroupsTest(unittest.TestCase):
    def test_groups(self):
        pact = chain_pact(("c", "a", "b", "d"), 8)
        for groups in all_groups(pact.hands):
            self.assertEqual(need_groups(pact, groups), groups)
        self.assertEqual(len(all_groups(pact.hands)), 15)
        self.assertEqual(need_groups(pact=pact, value=(("a", "b", "c", "d"),)), (("a", "b", "c", "d"),))

    def test_errors(self):
        pact = chain_pact(("c", "a", "b", "d"), 8)
        for value in (None, True, 3, "abcd", [("a", "b", "c", "d")], pact):
            self.assertEqual(raised(InvalidRow, need_groups, pact, value), -1)
        for wrong in ((), "b", ["b"], ("x",), ("c", "b"), ("b", "b"), (1,), (True,), None, 7, ("a", "d"), ("a",),
                      ("b", "d", "x"), (("b",),), ("a", "b")):
            self.assertEqual(raised(InvalidRow, need_groups, pact, (("a", "c"), wrong, None)), 1)
        for wrong in ((), None, ["a"], ("c", "a"), ("x",)):
            self.assertEqual(raised(InvalidRow, need_groups, pact, (wrong, ("a", "b", "c", "d"))), 0)
        self.assertEqual(raised(InvalidRow, need_groups, pact, (("b",), ("a", "c", "d"))), 1)
        self.assertEqual(raised(InvalidRow, need_groups, pact, (("a", "c"), ("b", "c", "d"))), 1)
        for groups in ((), (("a",),), (("a", "c"), ("b",))):
            self.assertEqual(raised(InvalidRow, need_groups, pact, groups), len(groups))

    def test_each_function_raises_them_first(self):
        pact = base_pact()
        for call in (group_moments, members_row):
            self.assertEqual(raised(InvalidRow, call, pact, None, "x", ("a",)), -1)
            self.assertEqual(raised(InvalidRow, call, pact, (("a",),), "x", ("a",)), 1)
            self.assertEqual(raised(NoName, call, pact, (("a", "b"),), "x", ("a",)), "x")
        self.assertEqual(raised(InvalidRow, group_court, pact, (("b",),), ((),)), 1)
        self.assertEqual(raised(InvalidRow, merged_pact, pact, (("a",), ("a", "b"))), 1)


class MomentsTest(unittest.TestCase):
    def test_against_the_words(self):
        for pact, groups in grouped(640, 40):
            moments = naive_moments(pact)
            for row in all_rows([group[0] for group in groups]):
                for hand in pact.hands:
                    found = group_moments(pact, groups, hand, row)
                    self.assertEqual(found, naive_group_moments(pact, groups, hand, row))
                    self.assertEqual(len(found), len(row))
                    self.assertTrue(all(moment in moments for moment in found))

    def test_groups_of_one_hand(self):
        for pact in small_pacts(641, 40) + close_pacts(641, 40):
            groups = tuple((hand,) for hand in sorted(pact.hands))
            for row in all_rows(pact.hands):
                for hand in pact.hands:
                    self.assertEqual(group_moments(pact, groups, hand, row)[:len(row_moments(pact, hand, row))],
                                     row_moments(pact, hand, row))
                    self.assertEqual(members_row(pact, groups, hand, row), row if row_holds(pact, hand, row) else None)


class MembersRowTest(unittest.TestCase):
    def test_a_row_of_groups_holds_exactly_if_there_is_one(self):
        found = []
        for pact, groups in grouped(642, 60):
            members = {group[0]: group for group in groups}
            for row in all_rows(members):
                for hand in pact.hands:
                    rows = [told for told in itertools.product(*(members[name] for name in row))
                            if row_holds(pact, hand, told)]
                    expected = min(rows) if rows else None
                    self.assertEqual(members_row(pact, groups, hand, row), expected)
                    self.assertEqual(naive_holds(pact, groups, hand, row), expected is not None)
                    found.append((expected is not None, len(row) > 1, any(len(group) > 1 for group in groups)))
        for kind in itertools.product((True, False), repeat=3):
            self.assertGreater(found.count(kind), 30)


class GroupCourtTest(unittest.TestCase):
    def naive_court(self, pact, groups, liars):
        for row in all_rows([group[0] for group in groups]):
            if not in_family(liars, tuple(sorted(row[:-1]))):
                continue
            for group in groups:
                if not all(naive_holds(pact, groups, hand, row) for hand in group):
                    return group[0], row
        return None

    def test_against_the_words(self):
        rng, found = random.Random(643), []
        for pact, groups in grouped(643, 60):
            for liars in rng.sample(all_families([group[0] for group in groups]), 2):
                expected = self.naive_court(pact, groups, liars)
                self.assertEqual(group_court(pact, groups, liars), expected)
                found.append(expected is None)
        self.assertGreater(min(found.count(True), found.count(False)), 40)

    def group_runs(self, pact, groups, hand, row):
        """The runs of a row of groups that does not hold: sends of notes, and asks of groups; the last one sends all."""
        runs, run, sent = [], [], []
        for name, moment in zip(row, group_moments(pact, groups, hand, row)):
            run = run + [("send", note) for note in pact.names if note in moment and note not in sent]
            sent = moment
            run = run + [("ask", name, moment)]
            runs.append(run)
        last = run + [("send", note) for note in pact.names if note in whole_paper(pact) and note not in sent]
        return runs[1:] + [last]

    def wronged_groups(self, pact, groups, run, answers):
        """The honest groups that some answers wrong in a run, and its liars."""
        owners = owners_of(pact)
        sent = {event[1]: at for at, event in enumerate(run) if event[0] == "send"}
        asks = [(at, event) for at, event in enumerate(run) if event[0] == "ask"]
        bounds = [at for (at, _), answer in zip(asks, answers) if answer == "bound"]
        wronged, liars = [], []
        for group in groups:
            told = [(at, event, answer) for (at, event), answer in zip(asks, answers) if event[1] == group[0]]
            own = {note: at for note, at in sent.items() if owners[note] in group}
            if any(own[note] > at or note not in event[2] for at, event, _ in told for note in own):
                liars.append(group[0])
                continue
            unready = any(sent.get(ready_note(pact, hand), 999) > at for at in bounds for hand in group)
            void = any(answer == "void" for _, _, answer in told)
            if unready or void and (bounds or all(note in sent for note in whole_paper(pact))):
                wronged.append(group[0])
        return wronged, tuple(sorted(liars))

    def plain_answers(self, pact, groups, run):
        """Bound once all ready notes are seen, and of each group told void a note beyond what it showed."""
        owners, told, seen, answers = owners_of(pact), {}, set(), []
        members = {group[0]: group for group in groups}
        for event in run:
            if event[0] == "ask":
                _, name, moment = event
                if name not in told:
                    seen |= set(moment)
                    void = [other for other, (answer, shown) in told.items() if answer == "void" and not any(
                        owners[note] in members[other] for note in seen - set(shown))]
                    bound = any(answer == "bound" for answer, _ in told.values())
                    told[name] = ("bound" if bound or not void and set(pact.ready) <= seen else "void", moment)
                answers.append(told[name][0])
        return answers

    def test_if_all_rows_hold_no_honest_group_is_wronged(self):
        rng, many = random.Random(649), 0
        for pact, groups in grouped(649, 80):
            names = {hand: group[0] for group in groups for hand in group}
            family = rng.choice(all_families(set(names.values())))
            if group_court(pact, groups, family) is not None or len(groups) == len(pact.hands):
                continue
            for _ in range(20):
                run = [event if event[0] == "send" else ("ask", names[event[1]], event[2])
                       for event in random_run(rng, pact, most=16, ask=0.4)]
                wronged, liars = self.wronged_groups(pact, groups, run, self.plain_answers(pact, groups, run))
                if in_family(family, liars):
                    self.assertEqual(wronged, [])
                    many += 1
        self.assertGreater(many, 100)

    def test_else_every_rule_wrongs_an_honest_group(self):
        rng, lengths = random.Random(648), []
        for pact, groups in grouped(648, 80, hands=(3, 5)):
            family = rng.choice(all_families([group[0] for group in groups])[:40])
            told = group_court(pact, groups, family)
            if told is None:
                continue
            name, row = told
            hands = [hand for group in groups if group[0] == name for hand in group]
            hand = [one for one in hands if not naive_holds(pact, groups, one, row)][0]
            runs = self.group_runs(pact, groups, hand, row)
            for answers in itertools.product(("bound", "void"), repeat=len(row)):
                wrongs = [self.wronged_groups(pact, groups, run, answers) for run in runs]
                self.assertTrue(all(in_family(family, liars) for _, liars in wrongs))
                self.assertTrue(any(wronged for wronged, _ in wrongs))
            lengths.append((len(row), max(map(len, groups))))
        self.assertGreater(len([1 for many, most in lengths if many > 1 and most > 1]), 5)

    def test_to_act_as_one_never_hurts(self):
        rng, merged = random.Random(644), 0
        for pact, groups in grouped(644, 80):
            names = [group[0] for group in groups]
            for liars in rng.sample(all_families(names), 2):
                # The same hands may lie together, but each for itself.
                lots = [tuple(sorted(hand for group in groups if group[0] in lot for hand in group)) for lot in liars]
                if isinstance(court(pact, family_of(lots)), Just):
                    self.assertIsNone(group_court(pact, groups, liars))
                    merged += len(groups) < len(pact.hands)
        self.assertGreater(merged, 20)

    def test_groups_of_one_hand_and_a_single_group(self):
        for pact in small_pacts(645, 40) + close_pacts(645, 60):
            hands = tuple(sorted(pact.hands))
            for family in all_families(pact.hands)[:5]:
                told = court(pact, family)
                expected = None if isinstance(told, Just) else (told.hand, told.row)
                self.assertEqual(group_court(pact, tuple((hand,) for hand in hands), family), expected)
            readies = {ready_note(pact, hand) for hand in hands}
            alone = group_court(pact, (hands,), ((),))
            self.assertEqual(alone, None if readies <= set(whole_paper(pact)) else (hands[0], (hands[0],)))

    def test_six_hands(self):
        groups = tuple((hand,) for hand in "abcdef")
        everybody = (tuple("abcdef"),)
        torn = court(chain_pact(tuple("abcdef"), 20), everybody)
        self.assertEqual(group_court(chain_pact(tuple("abcdef"), 20), groups, everybody), (torn.hand, torn.row))
        self.assertIsNone(group_court(chain_pact(tuple("abcdef"), 40), groups, everybody))


class MergedTest(unittest.TestCase):
    def chained(self, pact, groups):
        owners = owners_of(pact)
        return all(lies_under(pact, one, other) or lies_under(pact, other, one)
                   for group in groups for one, other in itertools.combinations(
                       [name for name in pact.names if owners[name] in group], 2))

    def test_both_courts_tell_the_same(self):
        rng, found = random.Random(646), []
        pacts = close_pacts(646, 120, hands=(3, 4)) + [chain_pact(tuple("dbac"), many) for many in (8, 12, 16, 20)]
        for pact in pacts:
            for groups in all_groups(pact.hands):
                if len(groups) == 1:
                    self.assertEqual(raised(Refused, merged_pact, pact, groups), "groups")
                    continue
                if not self.chained(pact, groups):
                    self.assertEqual(raised(Refused, merged_pact, pact, groups), "chain")
                    found.append("chain")
                    continue
                merged = merged_pact(pact, groups)
                names = {hand: group[0] for group in groups for hand in group}
                self.assertEqual(merged.hands, tuple(group[0] for group in groups))
                self.assertEqual(merged.notes, tuple((note, names[hand], waits) for note, hand, waits in pact.notes))
                self.assertEqual(merged.paper, pact.paper)
                for group, ready in zip(groups, merged.ready):
                    self.assertIn(ready, [ready_note(pact, hand) for hand in group])
                    self.assertTrue(all(lies_under(pact, ready_note(pact, hand), ready) for hand in group))
                for liars in rng.sample(all_families(merged.hands), 2):
                    told = court(merged, liars)
                    expected = None if isinstance(told, Just) else (told.hand, told.row)
                    self.assertEqual(group_court(pact, groups, liars), expected)
                    found.append(expected is None)
        for kind in (True, False, "chain"):
            self.assertGreater(found.count(kind), 30)


class BehindTest(unittest.TestCase):
    def renamed(self, pact, letter):
        names = {name: letter + name for name in pact.names}
        notes = [(names[name], hand, tuple(sorted(names[wait] for wait in waits))) for name, hand, waits in pact.notes]
        return Pact(pact.hands, notes, [names[name] for name in pact.ready],
                    tuple(sorted(names[name] for name in pact.paper)))

    def test_an_example(self):
        pact = pacts_behind(base_pact("p"), self.renamed(base_pact("o"), "x"))
        notes = base_pact().notes + (("xm", "a", ("m", "n", "o", "p")), ("xn", "b", ("m", "n", "o", "p", "xm")),
                                     ("xo", "a", ("m", "n", "o", "p", "xn")), ("xp", "b", ("m", "n", "o", "p", "xo")))
        self.assertEqual(pact, Pact(("a", "b"), notes, ("m", "n"), ("xo",)))

    def test_errors(self):
        pact = base_pact()
        other = Pact(("b", "a"), pact.notes, ("n", "m"), ("p",))
        self.assertEqual(raised(Refused, pacts_behind, pact, other), "hands")
        self.assertEqual(raised(Refused, pacts_behind, pact, chain_pact(("a", "b", "c"), 39)), "hands")
        self.assertEqual(raised(Refused, pacts_behind, pact, pact), "names")
        names = [("q" + name, hand) for name, hand in zip(note_names(37), "ab" * 20)]
        longer = Pact(("a", "b"), [(name, hand, ()) for name, hand in names], ("qaa", "qab"), ("qaa", "qab"))
        self.assertEqual(raised(Refused, pacts_behind, pact, longer), "notes")
        again = Pact(("a", "b"), [("m", "a", ())] + list(longer.notes), ("m", "qab"), ("m", "qab"))
        self.assertEqual(raised(Refused, pacts_behind, pact, again), "names")
        fewer = Pact(("a", "b"), longer.notes[:36], ("qaa", "qab"), ("qaa", "qab"))
        self.assertEqual(len(pacts_behind(one=pact, other=fewer).notes), 40)

    def test_just_for_the_sum(self):
        rng, many, firsts = random.Random(647), 0, {}
        for pact in close_pacts(647, 200, hands=(2, 4), notes=(6, 12)):
            firsts.setdefault(pact.hands, []).append(pact)
        for told in list(firsts):
            hands = tuple(sorted(told))
            firsts[told] += [chain_pact(told, size) for size in (2 * len(told), 3 * len(told))]
            for _ in range(60):
                one, other = rng.choice(firsts[told]), self.renamed(rng.choice(firsts[told]), "z")
                if len(one.notes) + len(other.notes) > 40:
                    continue
                families = all_families(hands) if len(hands) < 4 else [((),), sized_family(hands, 1), (hands[:2],)]
                mine, yours = rng.choice(families), rng.choice(families)
                if isinstance(court(one, mine), Just) and isinstance(court(other, yours), Just):
                    both = pacts_behind(one, other)
                    self.assertIsInstance(court(both, sum_family(hands, mine, yours)), Just)
                    many += 1
        self.assertGreater(many, 40)


class SumTest(unittest.TestCase):
    def test_against_the_words(self):
        for hands in (("a", "b"), ("a", "b", "c")):
            for one, other in itertools.product(all_families(hands), repeat=2):
                expected = [lot for lot in subsets(hands) if all(
                    in_family(one, tuple(sorted(order))) or any(
                        in_family(one, tuple(sorted(order[:at]))) and in_family(other, tuple(sorted(order[at + 1:])))
                        for at in range(len(order))) for order in itertools.permutations(lot))]
                self.assertEqual(sorted(all_lots(sum_family(hands, one, other))), sorted(expected))

    def test_sizes_are_added(self):
        for size in range(2, 7):
            hands = tuple("abcdef"[:size])
            for one in range(size + 1):
                for other in range(size + 1):
                    both = sum_family(hands, sized_family(hands, one), sized_family(hands, other))
                    self.assertEqual(both, sized_family(hands, min(size, one + other + 1)))
        self.assertEqual(sum_family(hands=("a", "b"), one=((),), other=((),)), (("a",), ("b",)))
        self.assertNotEqual(Torn("a", ("b",)), both)


if __name__ == "__main__":
    unittest.main()
