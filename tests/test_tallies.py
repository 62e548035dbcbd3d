"""[49] and [50]: machines of wishes, and how many rows of turns there are."""

import itertools
import random
import unittest

from boundorvoid.errors import InvalidSize
from boundorvoid.families import sized_family
from boundorvoid.tallies import stretch_count, turns_at, turns_count, turns_place, wishes_machine
from boundorvoid.turns import turns_lack
from boundorvoid.wishes import family_wishes, most_wishes, wants_behind, wishes_held

from tests.helpers import all_families, raised
from tests.test_turns import THREE, all_turns
from tests.test_wishes import draw_turns, draw_wishes

FIVE = tuple("abcde")


class MachineTest(unittest.TestCase):
    def naive_machine(self, hands, wishes):
        states, steps = [wishes], []
        while len(steps) < len(states):
            row = []
            for hand in sorted(hands):
                behind = wants_behind(states[len(steps)], (hand,))
                if behind not in states:
                    states.append(behind)
                row.append(states.index(behind))
            steps.append(tuple(row))
        return tuple(states), tuple(steps)

    def drawn(self, seed, many):
        rng = random.Random(seed)
        for _ in range(many):
            hands = rng.choice((("a", "b"), THREE, tuple("abcd")))
            yield hands, draw_wishes(rng, hands, rng.randrange(4), 4 if len(hands) < 4 else 3)
        for family in all_families(THREE):
            yield THREE, family_wishes(THREE, family)

    def test_against_the_words(self):
        for hands, wishes in self.drawn(320, 60):
            states, steps = wishes_machine(hands, wishes)
            self.assertEqual((states, steps), self.naive_machine(hands, wishes))
            self.assertEqual(states[0], wishes)
            self.assertEqual(len(set(states)), len(states))

    def test_a_step_keeps_a_state_or_leaves_it_for_ever(self):
        for hands, wishes in self.drawn(321, 30):
            states, steps = wishes_machine(hands, wishes)
            reach = {at: {at} for at in range(len(states))}
            for _ in range(len(states)):
                for at, row in enumerate(steps):
                    reach[at] = reach[at].union(*(reach[behind] for behind in row))
            for at, row in enumerate(steps):
                for behind in row:
                    self.assertTrue(behind == at or at not in reach[behind])

    def test_no_fewer_states_tell(self):
        for hands, wishes in self.drawn(322, 12):
            states, _ = wishes_machine(hands, wishes)
            for one, other in itertools.combinations(states[:12], 2):
                self.assertTrue(self.are_told_apart(hands, one, other))

    def are_told_apart(self, hands, one, other):
        for many in range(9):
            for turns in itertools.product(hands, repeat=many):
                if wishes_held(one, turns) != wishes_held(other, turns):
                    return True
        return False

    def test_the_numbers_of_states(self):
        for many in range(2, 6):
            hands = FIVE[:many]
            states, steps = wishes_machine(hands, family_wishes(hands, sized_family(hands, 1)))
            self.assertEqual(len(states), 2 ** (many + 1) - 2)
            self.assertEqual(len(steps), len(states))
            self.assertEqual(len(wishes_machine(hands, family_wishes(hands, ((),)))[0]), 2 ** many)
        self.assertEqual(wishes_machine(hands=THREE, wishes=()), (((),), ((0, 0, 0),)))
        self.assertEqual(wishes_machine(("a", "b"), (("b",),)), (((("b",),), ()), ((0, 1), (1, 1))))

    def test_the_limits(self):
        rng, most = random.Random(323), 0
        for _ in range(40):
            wishes = most_wishes([draw_turns(rng, THREE, 4, 4) for _ in range(3)])
            states, steps = wishes_machine(THREE, wishes)
            most = max(most, len(states))
            self.assertIn((), states)
            self.assertGreaterEqual(stretch_count(THREE, wishes, 60), 3 ** 47)
        self.assertGreater(most, 40)
        wishes = (("a", "b", "c"), ("b", "d", "a"), ("d", "c", "b"))
        self.assertGreater(stretch_count(tuple("abcd"), wishes, 60), 4 ** 50)


class CountTest(unittest.TestCase):
    def test_stretches(self):
        rng = random.Random(324)
        for _ in range(60):
            hands = rng.choice((("a", "b"), THREE))
            wishes = draw_wishes(rng, hands, rng.randrange(4), 3)
            for many in range(6):
                expected = sum(wishes_held(wishes, turns) for turns in all_turns(hands, many))
                self.assertEqual(stretch_count(hands, wishes, many), expected)
        self.assertEqual(stretch_count(hands=THREE, wishes=(), many=60), 3 ** 60)
        self.assertEqual(stretch_count(THREE, (("a",),), 0), 0)
        self.assertEqual(stretch_count(THREE, (("a",),), 60), 3 ** 60 - 2 ** 60)

    def test_just_turns(self):
        for hands, most in ((("a", "b"), 7), (THREE, 7)):
            for family in all_families(hands):
                for many in range(most + 1) if len(hands) == 2 else (0, 3, 5, 6, 7):
                    self.check_just(hands, family, many)

    def check_just(self, hands, family, many):
        just = [turns for turns in all_turns(hands, many) if turns_lack(hands, family, turns) is None]
        self.assertEqual(turns_count(hands, family, many), len(just))
        for number in sorted({0, 1, len(just) // 2, len(just) - 1} & set(range(len(just)))):
            self.assertEqual(turns_at(hands, family, many, number), just[number])
            self.assertEqual(turns_place(hands, family, just[number]), number)
        for number in (len(just), len(just) + 1, 10 ** 40):
            self.assertEqual(raised(InvalidSize, turns_at, hands, family, many, number), "number")

    def test_places_of_all_turns(self):
        family = (("a",), ("c",))
        place = 0
        for turns in all_turns(THREE, 6):
            if turns_lack(THREE, family, turns) is None:
                self.assertEqual(turns_place(THREE, family, turns), place)
                self.assertEqual(turns_at(THREE, family, 6, place), turns)
                place += 1
            else:
                self.assertIsNone(turns_place(THREE, family, turns))
        self.assertEqual(turns_count(THREE, family, 6), place)

    def test_example_and_names(self):
        one_lies = sized_family(THREE, 1)
        self.assertEqual(turns_count(hands=THREE, family=one_lies, many=7), 24)
        self.assertEqual(turns_at(hands=THREE, family=one_lies, many=7, number=0), tuple("abcabac"))
        self.assertEqual(turns_place(hands=THREE, family=one_lies, turns=tuple("abcabac")), 0)
        self.assertIsNone(turns_place(THREE, one_lies, ()))
        self.assertIsNone(turns_place(THREE, one_lies, ("a",) * 60))

    def test_sixty_turns_of_five_hands(self):
        one_lies = sized_family(FIVE, 1)
        many = turns_count(FIVE, one_lies, 60)
        self.assertGreater(many, 5 ** 59)
        self.assertLess(many, 5 ** 60)
        for number in (0, many // 3, many - 1):
            turns = turns_at(FIVE, one_lies, 60, number)
            self.assertIsNone(turns_lack(FIVE, one_lies, turns))
            self.assertEqual(turns_place(FIVE, one_lies, turns), number)
        self.assertEqual(raised(InvalidSize, turns_at, FIVE, one_lies, 60, many), "number")
        # The fewest turns are orders of all hands but one, and then a tight stretch.
        self.assertEqual(turns_count(FIVE, one_lies, 13), 120 * 24 * 24)
        self.assertEqual(turns_count(FIVE, one_lies, 12), 0)


if __name__ == "__main__":
    unittest.main()
