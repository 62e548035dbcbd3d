"""[12], [13] and [14]: moments and sendings."""

import itertools
import unittest

from boundorvoid.errors import InvalidMoment, InvalidSize
from boundorvoid.heights import closure_of
from boundorvoid.moments import all_moments, count_sendings, joined_moment, met_moment, moment_at, moment_levels
from boundorvoid.moments import moment_tops, need_moment, nth_sending, sending_number
from boundorvoid.pacts import Pact, lies_under, notes_of

from tests.helpers import base_pact, chain_pact, loose_pact, naive_moments, naive_under, raised, small_pacts, subsets

NOTES = [("m", "a", ()), ("n", "b", ("m",)), ("o", "a", ()), ("p", "b", ("o",))]
ALL = ("m", "n", "o", "p")


def example():
    return Pact(["a", "b"], NOTES, ["m", "n"], ("n", "o"))


def naive_sendings(pact, moment):
    under = naive_under(pact.notes)
    return [order for order in itertools.permutations(sorted(moment))
            if all(under[name] <= set(order[:at + 1]) for at, name in enumerate(order))]


class NeedMomentTest(unittest.TestCase):
    def test_moments(self):
        pact = example()
        for moment in ((), ("m",), ("m", "n"), ("m", "o"), ("m", "n", "o"), ALL):
            self.assertIs(need_moment(pact, moment), moment)
        self.assertEqual(need_moment(pact=pact, value=("m",)), ("m",))

    def test_wrong_values(self):
        pact = example()
        for value in (None, "m", ["m"], 0, True, pact, {}):
            self.assertEqual(raised(InvalidMoment, need_moment, pact, value), -1)
        for value, at in ((("x",), 0), (("m", None), 1), (("m", ["n"]), 1), (("m", "m"), 1), (("n", "m"), 1),
                          (("n",), 0), (("m", "p"), 1), (("o",), 0), (("m", "n", "p"), 2), (("a",), 0), ((1,), 0),
                          (("m", "o", "n"), 2), (("n", "x"), 1), (("n", "o", "n"), 2), (((),), 0), ((pact,), 0)):
            self.assertEqual(raised(InvalidMoment, need_moment, pact, value), at, value)

    def test_each_function_raises_it(self):
        pact = example()
        for call in (moment_levels, moment_tops, count_sendings):
            self.assertEqual(raised(InvalidMoment, call, pact, ("m", "p")), 1)
            self.assertEqual(raised(InvalidMoment, call, pact, ["m"]), -1)
        for call in (joined_moment, met_moment):
            self.assertEqual(raised(InvalidMoment, call, pact, [(), ("m", "x"), ("n",)]), 1)
            self.assertEqual(raised(InvalidMoment, call, pact, [("m",), ["m"]]), -1)
        self.assertEqual(raised(InvalidMoment, nth_sending, pact, ("n",), 0), 0)
        self.assertEqual(raised(InvalidMoment, sending_number, pact, ("n",), None), 0)
        large = loose_pact((30, 10))
        wrong = tuple(sorted(large.names))[1:]
        for call in (count_sendings, lambda *told: nth_sending(*told, 0), lambda *told: sending_number(*told, 0)):
            self.assertEqual(raised(InvalidMoment, call, large, wrong), 0)

    def test_against_the_words(self):
        for pact in small_pacts(31, 60, hands=(2, 3), notes=(2, 6)):
            moments = naive_moments(pact)
            for lot in subsets(sorted(pact.names)):
                if lot in moments:
                    self.assertEqual(need_moment(pact, lot), lot)
                else:
                    under = naive_under(pact.notes)
                    first = [at for at, name in enumerate(lot) if not under[name] <= set(lot)][0]
                    self.assertEqual(raised(InvalidMoment, need_moment, pact, lot), first)


class LevelsTest(unittest.TestCase):
    def test_levels(self):
        pact = example()
        self.assertEqual(moment_levels(pact=pact, moment=("m", "n", "o")), (2, 1))
        self.assertEqual(moment_levels(pact, ()), (0, 0))
        self.assertEqual(moment_at(pact=pact, levels=(2, 1)), ("m", "n", "o"))
        self.assertEqual(moment_at(pact, (0, 0)), ())
        self.assertIsNone(moment_at(pact, (0, 1)))

    def test_any_value_as_levels(self):
        pact = example()
        for levels in (None, 1, True, [2, 1], "21", (), (2,), (2, 1, 0), (3, 1), (-1, 0), (2, -1), (True, 0), (1, False),
                       (None, 0), ("1", 0), ((1,), 0), (2, [1]), pact, (pact, pact)):
            self.assertIsNone(moment_at(pact, levels), levels)

    def test_against_the_words(self):
        for pact in small_pacts(32, 60, hands=(2, 3), notes=(2, 7)):
            moments = naive_moments(pact)
            for moment in moments:
                levels = tuple(sum(name in moment for name in notes_of(pact, hand)) for hand in pact.hands)
                self.assertEqual(moment_levels(pact, moment), levels)
                self.assertEqual(moment_at(pact, levels), moment)
            tried = itertools.product(*(range(len(notes_of(pact, hand)) + 2) for hand in pact.hands))
            found = [moment_at(pact, levels) for levels in tried]
            self.assertEqual(sorted(moment for moment in found if moment is not None), sorted(moments))


class SetsTest(unittest.TestCase):
    def test_joined_and_met(self):
        pact = example()
        self.assertEqual(joined_moment(pact=pact, moments=[("m", "n"), ("m", "o")]), ("m", "n", "o"))
        self.assertEqual(met_moment(pact=pact, moments=(("m", "n"), ("m", "o"))), ("m",))
        for none in ((), []):
            self.assertEqual((joined_moment(pact, none), met_moment(pact, none)), ((), ALL))

    def test_against_the_words(self):
        for pact in small_pacts(33, 40, hands=(2, 3), notes=(2, 6)):
            moments = naive_moments(pact)
            for one in moments:
                for other in moments[::2]:
                    joined, met = joined_moment(pact, (one, other)), met_moment(pact, [one, other])
                    self.assertEqual(set(joined), set(one) | set(other))
                    self.assertEqual(set(met), set(one) & set(other))
                    self.assertIn(joined, moments)
                    self.assertIn(met, moments)
                    pairs = list(zip(moment_levels(pact, one), moment_levels(pact, other)))
                    self.assertEqual(moment_levels(pact, joined), tuple(max(pair) for pair in pairs))
                    self.assertEqual(moment_levels(pact, met), tuple(min(pair) for pair in pairs))
            self.assertEqual(joined_moment(pact, moments), tuple(sorted(pact.names)))
            self.assertEqual(met_moment(pact, moments), ())

    def test_tops(self):
        self.assertEqual(moment_tops(pact=example(), moment=("m", "n", "o")), ("n", "o"))
        for pact in small_pacts(34, 50, hands=(2, 3), notes=(2, 7)):
            found = {}
            for moment in naive_moments(pact):
                tops = moment_tops(pact, moment)
                self.assertEqual(tops, tuple(name for name in moment if not any(
                    other != name and lies_under(pact, name, other) for other in moment)))
                self.assertEqual(closure_of(pact, tops), moment)
                found[tops] = moment
            free = [lot for lot in subsets(sorted(pact.names)) if not any(
                one != other and lies_under(pact, one, other) for one in lot for other in lot)]
            self.assertEqual(sorted(found), sorted(free))

    def test_all_moments(self):
        self.assertEqual(all_moments(pact=example()), ((), ("m",), ("m", "n"), ("m", "o"), ("m", "n", "o"), ALL))
        for pact in small_pacts(35, 60, hands=(2, 4), notes=(2, 8)):
            moments = naive_moments(pact)
            self.assertEqual(all_moments(pact), tuple(sorted(moments, key=lambda moment: (len(moment), moment))))

    def test_twenty_thousand(self):
        edge = loose_pact((7, 4, 4, 9, 9))
        moments = all_moments(edge)
        self.assertEqual((len(moments), len(set(moments))), (20000, 20000))
        self.assertEqual(moments[:3], ((), ("aaa",), ("baa",)))
        above = loose_pact((3, 3, 4, 5, 5, 6))
        self.assertEqual(raised(InvalidSize, all_moments, above), "moments")
        # The product counts, not how many moments there are.
        self.assertEqual(raised(InvalidSize, all_moments, chain_pact(tuple("abcdef"), 40)), "moments")


class SendingsTest(unittest.TestCase):
    def test_the_example(self):
        pact = example()
        self.assertEqual(count_sendings(pact=pact, moment=ALL), 2)
        self.assertEqual(nth_sending(pact=pact, moment=ALL, number=0), ALL)
        self.assertEqual(nth_sending(pact, ALL, 1), ("m", "o", "n", "p"))
        self.assertIsNone(nth_sending(pact, ALL, 2))
        self.assertIsNone(nth_sending(pact, ALL, 10 ** 39))
        self.assertEqual(sending_number(pact=pact, moment=ALL, value=("m", "o", "n", "p")), 1)

    def test_a_moment_without_notes(self):
        pact = example()
        self.assertEqual(count_sendings(pact, ()), 1)
        self.assertEqual(nth_sending(pact, (), 0), ())
        self.assertIsNone(nth_sending(pact, (), 1))
        self.assertEqual(sending_number(pact, (), ()), 0)
        self.assertIsNone(sending_number(pact, (), ("m",)))

    def test_what_is_no_sending(self):
        pact = example()
        for value in (None, 0, True, "mnop", list(ALL), (), ("m", "n", "o"), ALL + ("p",), ("n", "m", "o", "p"),
                      ("m", "n", "p", "o"), ("m", "n", "o", "o"), ("m", "n", "o", "x"), ("m", "n", None, "p"),
                      ("m", ["n"], "o", "p"), (pact,) * 4):
            self.assertIsNone(sending_number(pact, ALL, value), value)
        self.assertIsNone(sending_number(pact, ("m", "n"), ("m", "o")))

    def test_against_the_words(self):
        for pact in small_pacts(36, 50, hands=(2, 3), notes=(2, 6)):
            for moment in naive_moments(pact):
                sendings = naive_sendings(pact, moment)
                self.assertEqual(count_sendings(pact, moment), len(sendings))
                for at, sending in enumerate(sendings):
                    self.assertEqual(nth_sending(pact, moment, at), sending)
                    self.assertEqual(sending_number(pact, moment, sending), at)
                self.assertIsNone(nth_sending(pact, moment, len(sendings)))
                for order in itertools.permutations(moment):
                    if order not in sendings:
                        self.assertIsNone(sending_number(pact, moment, order))
                if moment:
                    less = [tuple(name for name in moment if name != top) for top in moment_tops(pact, moment)]
                    self.assertEqual(sum(count_sendings(pact, other) for other in less), len(sendings))

    def test_twenty_thousand(self):
        edge = loose_pact((7, 4, 4, 9, 9))
        whole = tuple(sorted(edge.names))
        many = count_sendings(edge, whole)
        self.assertEqual(many, multinomial((7, 4, 4, 9, 9)))
        last = nth_sending(edge, whole, many - 1)
        self.assertEqual(last[:10], edge.names[-9:] + ("daa",))
        self.assertEqual(sending_number(edge, whole, last), many - 1)
        self.assertIsNone(nth_sending(edge, whole, many))
        above = loose_pact((3, 3, 4, 5, 5, 6))
        whole = tuple(sorted(above.names))
        self.assertEqual(raised(InvalidSize, count_sendings, above, whole), "moments")
        self.assertEqual(raised(InvalidSize, nth_sending, above, whole, 0), "moments")
        self.assertEqual(raised(InvalidSize, sending_number, above, whole, None), "moments")
        # The levels of the moment count, not the tops of the hands.
        self.assertEqual(count_sendings(above, whole[:-1]), multinomial((3, 3, 4, 5, 5, 5)))

    def test_numbers_of_many_figures(self):
        pact = chain_pact(("a", "b"), 40)
        self.assertEqual(count_sendings(pact, tuple(sorted(pact.names))), 1)
        wide = loose_pact((19, 19))
        whole = tuple(sorted(wide.names))
        for number in (0, 1, 10 ** 9, multinomial((19, 19)) - 1):
            self.assertEqual(sending_number(wide, whole, nth_sending(wide, whole, number)), number)

    def test_calls_between_change_nothing(self):
        one = base_pact()
        other = Pact(one.hands, [("m", "a", ()), ("n", "b", ()), ("o", "a", ()), ("p", "b", ())], one.ready, ("n", "o"))
        before = (all_moments(one), count_sendings(one, ALL))
        self.assertEqual((len(all_moments(other)), count_sendings(other, ALL)), (9, 6))
        self.assertEqual((all_moments(one), count_sendings(one, ALL)), before)


def multinomial(sizes):
    many, found = 0, 1
    for size in sizes:
        for k in range(1, size + 1):
            many += 1
            found = found * many // k
    return found


if __name__ == "__main__":
    unittest.main()
