"""[23] and [24]: families of hands that may lie together, and their texts."""

import itertools
import random
import unittest

from boundorvoid.errors import InvalidFamily, InvalidSize, InvalidText
from boundorvoid.families import all_lots, barred_lots, family_barring, family_join, family_of, family_text
from boundorvoid.families import in_family, need_family, read_family, sized_family

from tests.helpers import all_families, base_pact, chain_pact, raised, subsets


def by_size(lots):
    return tuple(sorted(lots, key=lambda lot: (len(lot), lot)))


def naive_lots(family):
    return {lot for told in family for lot in subsets(told)}


def outer(lots):
    return tuple(sorted(lot for lot in set(lots) if not any(set(lot) < set(other) for other in lots)))


class NeedFamilyTest(unittest.TestCase):
    def test_families(self):
        pact = chain_pact(("c", "a", "b"), 4)
        for family in all_families("abc"):
            self.assertIsNone(need_family(pact, family))
        self.assertIsNone(need_family(pact=pact, value=((),)))

    def test_wrong_values(self):
        pact = base_pact()
        for value in (None, (), [], [()], [("a",)], "a", 0, True, pact):
            self.assertEqual(raised(InvalidFamily, need_family, pact, value), -1)
        for value, at in ((("a",), 0), ((["a"],), 0), ((("a",), None), 1), ((("b",), ("a",)), 1), ((("a",), ("a",)), 1),
                          ((("c",),), 0), ((("a",), ("b",), ("a", "b")), 2), ((("a", "a"),), 0), ((("b", "a"),), 0), ((("a",), ("m",)), 1),
                          ((("a", None),), 0), (((["a"],),), 0), ((1,), 0), ((((),),), 0), ((pact,), 0)):
            self.assertEqual(raised(InvalidFamily, need_family, pact, value), at, value)
        # What lies within another one is told last.
        for value, at in (((("a",), ("a", "b")), 0), ((("a", "b"), ("b",)), 1), (((), ("a",)), 0),
                          ((("a",), ("a", "b"), ("c",)), 2), (((), ("a",), None), 2)):
            self.assertEqual(raised(InvalidFamily, need_family, pact, value), at, value)

    def test_against_the_words(self):
        pact, rng = chain_pact(("c", "a", "b"), 3), random.Random(81)
        lots = subsets("abc") + [("d",), ("b", "a"), ("a", "a"), ["a"]]
        fine = 0
        for _ in range(3000):
            value = tuple(rng.choice(lots) for _ in range(rng.randint(1, 3)))
            wrong = [at for at, lot in enumerate(value)
                     if lot not in lots[:8] or at and value[at - 1] in lots[:8] and not value[at - 1] < lot]
            if not wrong:
                wrong = [at for at, lot in enumerate(value) if any(set(lot) < set(other) for other in value)]
            if wrong:
                self.assertEqual(raised(InvalidFamily, need_family, pact, value), wrong[0], value)
            else:
                self.assertIsNone(need_family(pact, value))
                fine += 1
        self.assertGreater(fine, 100)


class LotsTest(unittest.TestCase):
    def test_the_lots(self):
        self.assertEqual(all_lots(family=(("a", "b"), ("c",))), ((), ("a",), ("b",), ("c",), ("a", "b")))
        self.assertEqual(all_lots(((),)), ((),))
        self.assertIs(in_family(family=(("a", "b"), ("c",)), lot=("b",)), True)
        self.assertIs(in_family((("a", "b"), ("c",)), ("b", "c")), False)
        self.assertIs(in_family(((),), ()), True)
        self.assertIs(in_family(((),), ("x",)), False)
        for hands in ("ab", "abc"):
            for family in all_families(hands):
                lots = naive_lots(family)
                self.assertEqual(all_lots(family), by_size(lots))
                for lot in subsets(hands):
                    self.assertIs(in_family(family, lot), lot in lots)

    def test_family_of(self):
        self.assertEqual(family_of(()), ((),))
        self.assertEqual(family_of([]), ((),))
        self.assertEqual(family_of([()]), ((),))
        self.assertEqual(family_of(lots=[("b",), ("a", "c"), ("a",), ("b",), ()]), (("a", "c"), ("b",)))
        rng = random.Random(82)
        for _ in range(200):
            lots = [rng.choice(subsets("abcd")) for _ in range(rng.randint(1, 6))]
            self.assertEqual(family_of(lots), outer(lots))
            self.assertEqual(family_of(tuple(lots[::-1])), outer(lots))
        lots = subsets("abcdefg")
        self.assertEqual(family_of(lots[:64]), tuple(lots[29:64]))

    def test_sized_family(self):
        self.assertEqual(sized_family(hands=("a", "b", "c"), many=2), (("a", "b"), ("a", "c"), ("b", "c")))
        self.assertEqual(sized_family(("a", "b"), 0), ((),))
        self.assertEqual(sized_family((), 0), ((),))
        self.assertEqual(raised(InvalidSize, sized_family, ("a", "b"), 3), "many")
        self.assertEqual(raised(InvalidSize, sized_family, (), 1), "many")
        for many in range(8):
            self.assertEqual(sized_family(tuple("abcdefg"), many), tuple(itertools.combinations("abcdefg", many)))

    def test_family_join(self):
        self.assertEqual(family_join(one=(("a",), ("b", "c")), other=(("a", "b"),)), (("a", "b"), ("b", "c")))
        for one in all_families("abc"):
            for other in all_families("abc"):
                joined = family_join(one, other)
                self.assertIn(joined, all_families("abc"))
                self.assertEqual(set(all_lots(joined)), naive_lots(one) | naive_lots(other))


class BarredTest(unittest.TestCase):
    def test_barred_lots(self):
        self.assertEqual(barred_lots(hands=("a", "b", "c"), family=(("a", "b"),)), (("c",),))
        self.assertEqual(barred_lots(("a", "b"), ((),)), (("a",), ("b",)))
        self.assertEqual(barred_lots(("a", "b"), (("a", "b"),)), ())
        self.assertEqual(family_barring(hands=("a", "b", "c"), lots=[("c",)]), (("a", "b"),))
        self.assertEqual(family_barring(("a", "b"), []), (("a", "b"),))
        self.assertIsNone(family_barring(("a", "b"), [("a",), ()]))
        self.assertEqual(family_barring(("a", "b"), (("a",), ("b",), ("a",))), ((),))

    def test_against_the_words(self):
        for family in all_families("abc") + all_families("ab"):
            for hands in (("a", "b", "c"), ("a", "b", "c", "d")):
                lots = naive_lots(family)
                barred = barred_lots(hands, family)
                self.assertEqual(barred, by_size(
                    lot for lot in subsets(hands) if lot not in lots
                    and all(tuple(x for x in lot if x != hand) in lots for hand in lot)))
                for lot in subsets(hands):
                    self.assertEqual(lot in lots, not any(set(other) <= set(lot) for other in barred))
                self.assertEqual(family_barring(hands, barred), family)
                self.assertEqual(family_barring(hands, list(barred)), family)

    def test_barring_any_lots(self):
        rng = random.Random(83)
        for _ in range(200):
            lots = [rng.choice(subsets("abcd")) for _ in range(rng.randint(0, 4))]
            free = [lot for lot in subsets("abcd") if not any(set(other) <= set(lot) for other in lots)]
            self.assertEqual(family_barring(tuple("abcd"), lots), outer(free) if free else None)

    def test_seven_hands(self):
        hands = tuple("abcdefg")
        family = sized_family(hands, 3)
        self.assertEqual(barred_lots(hands, family), sized_family(hands, 4))
        self.assertEqual(family_barring(hands, barred_lots(hands, family)), family)
        self.assertEqual(len(all_lots(family)), 1 + 7 + 21 + 35)


class FamilyTextTest(unittest.TestCase):
    def test_texts(self):
        self.assertEqual(family_text(family=(("a", "b"), ("c",))), "a b\nc")
        self.assertEqual(read_family(text="a b\nc"), (("a", "b"), ("c",)))
        self.assertEqual(family_text(((),)), "")
        self.assertEqual(read_family(""), ((),))
        for family in all_families("abc"):
            self.assertEqual(read_family(family_text(family)), family)

    def test_wrong_texts(self):
        for value in (None, 0, True, ("a",), ["a"], b"a", base_pact()):
            self.assertEqual(raised(InvalidText, read_family, value), -1)
        for text, at in (("\n", 0), ("a\n", 1), ("\na", 0), (" ", 0), ("a ", 0), (" a", 0), ("a  b", 0), ("b a", 0),
                         ("a a", 0), ("A", 0), ("a1", 0), ("abcdefghi", 0), ("a\nb\na", 2), ("a\nc\nb", 2), ("a\na", 1), ("b\na", 1),
                         ("a\n\nb", 1), ("a\tb", 0), ("a\r\nb", 0), ("a\nb c \nd", 1), ("\xe9", 0), ("a,b", 0)):
            self.assertEqual(raised(InvalidText, read_family, text), at, text)
        # What lies within another one is told last.
        for text, at in (("a\na b", 0), ("a b\nb", 1), ("a\na b\nA", 2), ("a c\nb\nb c\nc", 1), ("a c\nb c\nc", 2)):
            self.assertEqual(raised(InvalidText, read_family, text), at, text)

    def test_a_long_text(self):
        names = ["".join(letters) for letters in itertools.product("abcdefghij", repeat=3)]
        self.assertEqual(read_family("\n".join(names)), tuple((name,) for name in names))


if __name__ == "__main__":
    unittest.main()
