"""[36]: the least that a notary must remember of the asks."""

import itertools
import random
import unittest

from boundorvoid.booked import book_entries, book_entry, parting_asks
from boundorvoid.errors import InvalidAsk, InvalidSize, Refused
from boundorvoid.heights import top_of
from boundorvoid.moments import all_moments, need_moment
from boundorvoid.pacts import lies_under, notes_of, ready_note, under_of
from boundorvoid.rules import plain_answer
from boundorvoid.texts import read_pact

from tests.helpers import base_pact, chain_pact, close_pacts, loose_pact, naive_moments, raised, random_asks
from tests.helpers import rising_asks, small_pacts


def plain_history(pact, heard):
    history = ()
    for ask in heard:
        history += ((*ask, plain_answer(pact, history, *ask)),)
    return history


def naive_entry(pact, heard):
    history = plain_history(pact, heard)
    fresh = [hand for hand in pact.hands if hand not in [told[0] for told in history]]
    if not fresh:
        return ()
    if "bound" in [told[2] for told in history]:
        return ("bound",)
    seen = {note for _, moment, _ in history for note in moment}
    awaited = {ready_note(pact, hand) for hand in pact.hands} - seen
    for hand, moment, _ in history:
        own = notes_of(pact, hand)
        if not seen & set(own) - set(moment):
            left = [note for note in own if note not in moment]
            if not left:
                return ("never",)
            awaited.add(left[0])
    tops = [one for one in awaited if not any(lies_under(pact, one, other) for other in awaited if other != one)]
    under = set().union(*(under_of(pact, note) for note in awaited))
    levels = [max(len(seen & set(notes_of(pact, hand))), len(under & set(notes_of(pact, hand)))) for hand in fresh]
    return "awaited", tuple(sorted(tops)), () if len(fresh) == 1 else tuple(levels)


def last_answers(pact, heard, most):
    """What the plain rule answers to the last of all rows of at most so many asks of fresh hands."""
    told = {}
    moments = naive_moments(pact)

    def grow(history, row):
        asked = [one[0] for one in history]
        for hand in pact.hands:
            if hand not in asked:
                for moment in moments:
                    answer = plain_answer(pact, history, hand, moment)
                    longer = row + ((hand, moment),)
                    told[longer] = answer
                    if len(longer) < most:
                        grow(history + ((hand, moment, answer),), longer)

    grow(plain_history(pact, heard), ())
    return told


class EntryTest(unittest.TestCase):
    def test_by_hand(self):
        pact = base_pact()
        self.assertEqual(book_entry(pact, ()), ("awaited", ("n",), (1, 1)))
        self.assertEqual(book_entry(pact, (("a", ("m",)),)), ("awaited", ("o",), ()))
        self.assertEqual(book_entry(pact, (("a", ("m", "n")),)), ("bound",))
        self.assertEqual(book_entry(pact=pact, heard=(("a", ()), ("b", ("m", "n")))), ())
        loose = loose_pact((1, 1))
        self.assertEqual(book_entry(loose, (("a", ("aaa",)),)), ("never",))
        self.assertEqual(book_entry(loose, (("a", ()),)), ("awaited", ("aaa", "baa"), ()))

    def test_against_the_words(self):
        rng, words = random.Random(250), []
        for pact in small_pacts(250, 80, hands=(2, 4), notes=(4, 8)) + close_pacts(250, 80, hands=(2, 4)):
            for draw in (random_asks, rising_asks, rising_asks):
                heard = draw(rng, pact)
                entry = naive_entry(pact, heard)
                self.assertEqual(book_entry(pact, heard), entry)
                words.append(entry[:1])
        self.assertGreater(min(map(words.count, [(), ("bound",), ("never",), ("awaited",)])), 15)

    def test_errors(self):
        pact = base_pact()
        for heard, at in ((None, -1), ([], -1), ((("a", (), "void"),), 0), ((("a", ()), ("a", ())), 1),
                          ((("a", ("n",)),), 0), ((("c", ()),), 0)):
            self.assertEqual(raised(InvalidAsk, book_entry, pact, heard), at)
            self.assertEqual(raised(InvalidAsk, parting_asks, pact, heard, None), at)
            self.assertEqual(raised(InvalidAsk, parting_asks, pact, (), heard), at)


class PartingTest(unittest.TestCase):
    def test_alike_exactly_if_the_entries_are_equal(self):
        rng, found = random.Random(251), []
        for pact in small_pacts(251, 16, hands=(3, 3), notes=(3, 5)) + close_pacts(251, 8, hands=(3, 3), notes=(6, 6)):
            for _ in range(5):
                hands = rng.sample(pact.hands, rng.randint(0, 3))
                moments = naive_moments(pact)
                one = tuple((hand, rng.choice(moments)) for hand in hands)
                other = tuple((hand, rng.choice(moments)) for hand in rng.sample(hands, len(hands)))
                mine, yours = last_answers(pact, one, 2), last_answers(pact, other, 2)
                alike = mine == yours
                self.assertEqual(book_entry(pact, one) == book_entry(pact, other), alike)
                row = parting_asks(pact, one, other)
                found.append(row and len(row))
                if alike:
                    self.assertIsNone(row)
                else:
                    self.assertIn(len(row), (1, 2))
                    self.assertNotEqual(mine[row], yours[row])
        self.assertGreater(min(map(found.count, (None, 1))), 10)

    def test_rows_that_part(self):
        rng, found = random.Random(252), []
        for pact in small_pacts(252, 200, hands=(3, 4), notes=(4, 8)) + close_pacts(252, 60, hands=(3, 4)):
            moments = naive_moments(pact)
            for _ in range(4):
                hands = rng.sample(pact.hands, rng.randint(1, len(pact.hands)))
                one = tuple((hand, rng.choice(moments)) for hand in hands)
                if rng.random() < 0.5:
                    at = rng.randrange(len(one))
                    changed = rng.choice([shown for shown in moments if len(set(shown) ^ set(one[at][1])) < 2])
                    other = one[:at] + ((one[at][0], changed),) + one[at + 1:]
                else:
                    other = tuple((hand, rng.choice(moments)) for hand in rng.sample(hands, len(hands)))
                row = parting_asks(pact, one, other)
                if book_entry(pact, one) == book_entry(pact, other):
                    self.assertIsNone(row)
                    continue
                found.append(len(row))
                answers = []
                for heard in (one, other):
                    for _, moment in row:
                        need_moment(pact, moment)
                    answers.append(plain_history(pact, heard + row)[-1][2])
                self.assertNotEqual(*answers)
        self.assertGreater(min(map(found.count, (1, 2))), 5)

    def test_one_after_another_with_two_asks(self):
        # How much is known of a fresh hand tells whether it is unshown when it holds back.
        pact = loose_pact((2, 2, 1))
        one, other = (("a", ()),), (("a", ("baa",)),)
        self.assertEqual(book_entry(pact, one), ("awaited", ("aaa", "baa", "caa"), (1, 1)))
        self.assertEqual(book_entry(pact, other), ("awaited", ("aaa", "caa"), (1, 1)))
        longer = (("a", ("baa", "bab")),)
        self.assertEqual(book_entry(pact, longer), ("awaited", ("aaa", "caa"), (2, 1)))
        row = parting_asks(pact=pact, one=other, other=longer)
        self.assertEqual(len(row), 2)
        self.assertNotEqual(plain_history(pact, other + row)[-1], plain_history(pact, longer + row)[-1])

    def test_hands(self):
        pact = loose_pact((1, 1, 1))
        self.assertEqual(raised(Refused, parting_asks, pact, (("a", ()),), ()), "hands")
        self.assertEqual(raised(Refused, parting_asks, pact, (("a", ()),), (("b", ()),)), "hands")
        self.assertEqual(raised(Refused, parting_asks, pact, (("a", ()),), (("a", ()), ("b", ()))), "hands")
        self.assertEqual(raised(InvalidAsk, parting_asks, pact, (("a", ()),), (("a", ()), ("a", ()))), 1)
        self.assertIsNone(parting_asks(pact, (("a", ()), ("b", ())), (("b", ()), ("a", ()))))
        every = tuple((hand, ()) for hand in "abc")
        self.assertIsNone(parting_asks(pact, every, tuple((hand, (hand + "aa",)) for hand in "bca")))


class EntriesTest(unittest.TestCase):
    def test_all_that_come(self):
        pacts = small_pacts(253, 12, hands=(2, 3), notes=(3, 4)) + close_pacts(253, 6, hands=(2, 2), notes=(4, 5))
        for pact in pacts + close_pacts(253, 3, hands=(3, 3), notes=(6, 6)):
            moments = naive_moments(pact)
            found = set()
            for many in range(len(pact.hands) + 1):
                for hands in itertools.permutations(pact.hands, many):
                    rows = itertools.product(moments, repeat=many)
                    if many == len(pact.hands):
                        rows = [((),) * many]
                    for shown in rows:
                        found.add((tuple(sorted(hands)), book_entry(pact, tuple(zip(hands, shown)))))
            self.assertEqual(book_entries(pact), tuple(sorted(found)))

    def test_example(self):
        pact = base_pact()
        self.assertEqual(book_entries(pact=pact), (
            ((), ("awaited", ("n",), (1, 1))),
            (("a",), ("awaited", ("n",), ())), (("a",), ("awaited", ("o",), ())), (("a",), ("bound",)),
            (("a", "b"), ()),
            (("b",), ("awaited", ("n",), ())), (("b",), ("bound",))))

    def test_limits(self):
        self.assertEqual(raised(InvalidSize, book_entries, loose_pact((1, 1, 1, 1))), "hands")
        self.assertEqual(raised(InvalidSize, book_entries, loose_pact((10, 10, 10, 10))), "hands")
        self.assertEqual(raised(InvalidSize, book_entries, loose_pact((20, 20))), "moments")
        self.assertEqual(raised(InvalidSize, book_entries, loose_pact((9, 10))), "moments")
        self.assertEqual(len(all_moments(loose_pact((9, 9)))), 100)
        self.assertEqual(len(all_moments(loose_pact((4, 4, 3)))), 100)
        self.assertGreater(len(book_entries(loose_pact((9, 9)))), 10)
        self.assertGreater(len(book_entries(loose_pact((4, 4, 3)))), 100)
        rows = ["hands d x a", "note n a", "note bz d", "note ba d", "note o x", "note z x o", "note a x", "note mk x",
                "note ma a ba", "note aa a o", "note mz a", "note ax x ma", "note ak d", "note mx d", "note az x mx"]
        pact = read_pact("\n".join(rows + ["ready bz z n", "paper ak ax ba mk mz n o"]))
        self.assertEqual(len(all_moments(pact)), 101)
        self.assertEqual(raised(InvalidSize, book_entries, pact), "moments")
        chain = chain_pact(tuple("abc"), 40)
        self.assertEqual(top_of(chain, "a"), 14)
        self.assertGreater(len(book_entries(chain)), 20)


if __name__ == "__main__":
    unittest.main()
