"""Bundles one below another, and whether two are alike for all loads: points [13] and [14]."""

import random
import unittest
from fractions import Fraction

from strandpull.chains import chain_sinks, parting, weakest
from strandpull.growing import greatest
from strandpull.ropes import is_load, sinking
from strandpull.waves import bears, broken_by
from tests.model import HAIR, bundles, is_borne, pair, sunk_behind, turning_loads, worth

TWO = (("a", 0, 2, 10), ("b", 3, 1, 5))
ROW = (("a", 0, 3, 6), ("b", 4, 2, 50))
ONE = (("x", 1, 3, 100),)
WEAK = (("w", 2, 1, 3),)


class ChainTests(unittest.TestCase):
    def test_one_bundle(self):
        self.assertEqual(chain_sinks((TWO,), (9, 1)), [(4, 1)])

    def test_sinkings_are_added_up_from_above(self):
        self.assertEqual(chain_sinks((TWO, ONE), (9, 1)), [(4, 1), (8, 1)])
        self.assertEqual(chain_sinks((ONE, TWO), (9, 1)), [(4, 1), (8, 1)])
        self.assertEqual(chain_sinks((TWO, ONE), (10, 1)), [(13, 3), (26, 3)])
        self.assertEqual(chain_sinks((ONE, TWO, ONE, TWO), (12, 1)), [(5, 1), (10, 1), (15, 1), (20, 1)])

    def test_fractions_are_added_up_in_lowest_terms(self):
        halves = (("a", 0, 2, 10),)
        sixths = (("a", 0, 6, 10),)
        self.assertEqual(chain_sinks((halves, sixths, sixths, sixths), (1, 1)), [(1, 2), (2, 3), (5, 6), (1, 1)])

    def test_a_bundle_of_which_some_ropes_break(self):
        self.assertEqual(chain_sinks((ROW, TWO, ROW), (8, 1)), [(8, 1), pair(8 + Fraction(11, 3)),
                                                                pair(16 + Fraction(11, 3))])

    def test_a_bundle_that_does_not_bear_the_load(self):
        self.assertIsNone(chain_sinks((TWO,), (13, 1)))
        self.assertIsNone(chain_sinks((TWO, ONE), (13, 1)))
        self.assertIsNone(chain_sinks((ONE, TWO), (13, 1)))
        self.assertIsNone(chain_sinks((ONE, ROW, TWO, ONE), pair(12 + HAIR)))
        self.assertIsNotNone(chain_sinks((ONE, ROW, TWO, ONE), (12, 1)))

    def test_a_load_of_nought(self):
        self.assertEqual(chain_sinks((TWO, WEAK, ROW), (0, 1)), [(0, 1), (0, 1), (0, 1)])

    def test_forty_figures(self):
        load = (10 ** 40 - 1, 10 ** 39)
        self.assertEqual(chain_sinks((ONE, ONE), load), [pair(1 + worth(load) / 3), pair(2 + 2 * worth(load) / 3)])

    def test_as_the_words_say(self):
        chance = random.Random(61)
        kinds = {"borne": 0, "fallen": 0}
        given = bundles(62, 200)
        for _ in range(150):
            chain = tuple(chance.sample(given, chance.randint(1, 4)))
            load = worth(weakest(chain)[0]) * Fraction(chance.randint(0, 12), chance.choice((9, 10)))
            with self.subTest((chain, load)):
                told = chain_sinks(chain, pair(load))
                kinds["fallen" if told is None else "borne"] += 1
                if not all(is_borne(bundle, load) for bundle in chain):
                    self.assertIsNone(told)
                else:
                    sinkings = [sunk_behind(bundle, load) for bundle in chain]
                    self.assertEqual(told, [pair(sum(sinkings[:many + 1])) for many in range(len(chain))])
        for many in kinds.values():
            self.assertGreater(many, 20)

    def test_by_their_names(self):
        self.assertEqual(chain_sinks(chain=(TWO,), load=(9, 1)), [(4, 1)])


class WeakestTests(unittest.TestCase):
    def test_one_bundle(self):
        self.assertEqual(weakest((TWO,)), ((12, 1), 0))

    def test_wherever_the_weakest_is(self):
        self.assertEqual(weakest((WEAK, TWO, ROW, ONE)), ((3, 1), 0))
        self.assertEqual(weakest((TWO, WEAK, ROW, ONE)), ((3, 1), 1))
        self.assertEqual(weakest((TWO, ROW, WEAK, ONE)), ((3, 1), 2))
        self.assertEqual(weakest((TWO, ROW, ONE, WEAK)), ((3, 1), 3))
        self.assertEqual(weakest((ONE, ROW)), ((50, 1), 1))

    def test_the_first_of_several(self):
        self.assertEqual(weakest((ONE, TWO, TWO, ROW)), ((12, 1), 1))
        self.assertEqual(weakest((TWO, TWO)), ((12, 1), 0))
        self.assertEqual(weakest((ROW, (("z", 9, 9, 12),), TWO)), ((12, 1), 1))

    def test_by_what_loads_are_worth(self):
        # 40 by 3 as a tuple is behind 14 by 1, but worth less.
        third = (("a", 0, 3, 10), ("b", 0, 1, 10))
        self.assertEqual(greatest(third), ((40, 3), (10, 3)))
        self.assertEqual(weakest(((("a", 0, 1, 14),), third)), ((40, 3), 1))

    def test_all_bear_it_and_that_one_no_more(self):
        chance = random.Random(63)
        given = bundles(64, 200)
        for _ in range(80):
            chain = tuple(chance.sample(given, chance.randint(1, 4)))
            with self.subTest(chain):
                load, at = weakest(chain)
                self.assertTrue(all(is_borne(bundle, worth(load)) for bundle in chain))
                self.assertIsNotNone(chain_sinks(chain, load))
                self.assertIsNone(chain_sinks(chain, pair(worth(load) + HAIR)))
                self.assertFalse(is_borne(chain[at], worth(load) + HAIR))
                self.assertTrue(all(is_borne(bundle, worth(load) + HAIR) for bundle in chain[:at]))

    def test_by_its_name(self):
        self.assertEqual(weakest(chain=(TWO,)), ((12, 1), 0))


def are_alike_by(one, other, load):
    return sunk_behind(one, load) == sunk_behind(other, load)


def some_unlike(one, other):
    """Whether some load is one by which they are unlike, by trying all where that might begin or be seen."""
    loads = sorted(turning_loads(one) | turning_loads(other))
    loads += [(load + behind) / 2 for load, behind in zip(loads, loads[1:])]
    return not all(are_alike_by(one, other, load) for load in loads)


def bundle_of(chance, many):
    """A bundle of few unlike numbers, so that two of them are often alike."""
    return tuple((name, chance.choice((0, 2)), chance.choice((1, 2)), chance.choice((2, 4)))
                 for name in "abc"[:many])


class PartingTests(unittest.TestCase):
    def alike(self, one, other):
        with self.subTest((one, other)):
            self.assertIsNone(parting(one, other))
            self.assertIsNone(parting(other, one))

    def unlike(self, one, other):
        for first, second in ((one, other), (other, one)):
            with self.subTest((first, second)):
                load = parting(first, second)
                self.assertTrue(is_load(load))
                self.assertFalse(are_alike_by(first, second, worth(load)))
                self.assertNotEqual(sinking(first, broken_by(first, (), load), load),
                                    sinking(second, broken_by(second, (), load), load))
        return worth(parting(one, other))

    def test_a_bundle_and_itself(self):
        for bundle in (TWO, ROW, ONE, WEAK, *bundles(65, 60)):
            self.alike(bundle, bundle)

    def test_names_are_not_looked_at(self):
        self.alike(TWO, (("p", 3, 1, 5), ("q", 0, 2, 10)))

    def test_ropes_in_place_of_others_as_stiff_together(self):
        self.alike((("a", 3, 5, 10),), (("a", 3, 2, 4), ("b", 3, 3, 6)))
        self.alike((("a", 0, 2, 10), ("b", 3, 4, 20), ("c", 9, 1, 100)),
                   (("a", 0, 1, 5), ("b", 0, 1, 5), ("c", 3, 1, 5), ("d", 3, 3, 15), ("e", 9, 1, 100)))

    def test_as_stiff_together_but_not_of_one_end(self):
        self.alike((("a", 3, 5, 10),), (("a", 3, 2, 5), ("b", 3, 3, 6)))
        self.unlike((("a", 3, 5, 10),), (("a", 3, 2, 11), ("b", 3, 3, 6)))
        self.unlike((("a", 3, 5, 10),), (("a", 3, 2, 4), ("b", 3, 3, 5)))

    def test_a_rope_that_is_never_drawn(self):
        self.alike(TWO, TWO + (("c", 50, 3, 12),))
        self.alike(TWO, (("a", 0, 2, 10), ("b", 3, 1, 2)))
        self.alike(TWO + (("c", 50, 3, 12),), TWO + (("c", 70, 1, 1), ("d", 5, 9, 9)))

    def test_a_rope_that_is_drawn_where_the_others_are_gone(self):
        load = self.unlike(TWO, TWO + (("c", 50, 3, 13),))
        self.assertTrue(12 < load <= 13)

    def test_one_strength_more(self):
        self.assertTrue(12 < self.unlike(TWO, (("a", 0, 2, 11), ("b", 3, 1, 5))) <= Fraction(27, 2))
        load = self.unlike((("a", 0, 100, 1000000),), (("a", 0, 100, 999999),))
        self.assertTrue(999999 < load <= 1000000)

    def test_one_slack_or_stiffness_more(self):
        self.unlike(TWO, (("a", 0, 2, 10), ("b", 4, 1, 5)))
        self.unlike(TWO, (("a", 1, 2, 10), ("b", 3, 1, 5)))
        self.unlike(TWO, (("a", 0, 3, 10), ("b", 3, 1, 5)))
        self.unlike((("a", 999, 100, 7),), (("a", 1000, 100, 7),))

    def test_unlike_by_few_loads_alone(self):
        # b is drawn for the last bit before a breaks and holds nothing then.
        load = self.unlike((("a", 0, 1, 1000),), (("a", 0, 1, 1000), ("b", 999, 1, 1)))
        self.assertTrue(999 < load <= 1001)
        load = self.unlike((("a", 0, 100, 1000000), ("b", 999, 1, 1)), (("a", 0, 100, 1000000), ("b", 998, 1, 1)))
        self.assertTrue(99800 < load <= 1000000)

    def test_unlike_between_two_loads_by_which_they_are_alike(self):
        # Both sink by 5 where the load is 5 and by 15 where it is 10, but not between.
        one = (("a", 0, 1, 5), ("b", 5, 1, 10))
        other = (("a", 0, 1, 5), ("b", 10, 2, 10))
        for load in (0, 1, 5, 10, 11):
            self.assertTrue(are_alike_by(one, other, Fraction(load)))
        self.assertTrue(5 < self.unlike(one, other) < 10)

    def test_unlike_but_at_the_greatest_load_and_half_of_it(self):
        # One rope against two, of which the second is drawn from a load of 8 on.
        one = (("a", 2, 4, 16),)
        other = (("a", 0, 2, 12), ("b", 4, 2, 4))
        for load in (0, 8, 12, 16, 17):
            self.assertTrue(are_alike_by(one, other, Fraction(load)))
        self.assertTrue(0 < self.unlike(one, other) < 8)

    def test_unlike_behind_a_break_but_halfway_and_at_the_end(self):
        # The same, where first a rope breaks by more than 4.
        one = (("a", 3, 4, 12), ("w", 0, 4, 4))
        other = (("a", 1, 2, 10), ("b", 5, 2, 2), ("w", 0, 4, 4))
        for load in (0, 2, 4, 8, 10, 12, 13):
            self.assertTrue(are_alike_by(one, other, Fraction(load)))
        self.assertTrue(4 < self.unlike(one, other) < 8)

    def test_alike_till_one_of_them_falls(self):
        load = self.unlike((("a", 4, 3, 7),), (("a", 4, 3, 9),))
        self.assertTrue(7 < load <= 9)

    def test_each_pair_of_many(self):
        kinds = {"alike": 0, "unlike": 0}
        chance = random.Random(66)
        for _ in range(600):
            one = bundle_of(chance, chance.randint(1, 2))
            other = bundle_of(chance, chance.randint(1, 3))
            if some_unlike(one, other):
                kinds["unlike"] += 1
                self.unlike(one, other)
            else:
                kinds["alike"] += 1
                self.alike(one, other)
        for many in kinds.values():
            self.assertGreater(many, 20)

    def test_a_rope_of_many_changed_by_one(self):
        chance = random.Random(67)
        for bundle in bundles(68, 60, 3):
            rope = list(chance.choice(bundle))
            rope[chance.randint(1, 3)] += 1
            other = tuple(tuple(rope) if part[0] == rope[0] else part for part in bundle)
            if some_unlike(bundle, other):
                self.unlike(bundle, other)
            else:
                self.alike(bundle, other)

    def test_what_is_borne_by_none_is_alike(self):
        self.assertIs(bears(TWO, (), (13, 1)), False)
        self.assertTrue(are_alike_by(TWO, TWO, Fraction(13)))

    def test_by_their_names(self):
        self.assertIsNone(parting(one=TWO, other=TWO))
        self.assertIsNotNone(parting(one=TWO, other=ROW))


if __name__ == "__main__":
    unittest.main()
