"""The table, the greatest load, and the steps of a load that grows slowly: points [8] and [9]."""

import unittest
from fractions import Fraction

from strandpull.growing import greatest, steps, table
from strandpull.ropes import sinking
from strandpull.waves import bears, broken_by, waves
from tests.model import HAIR, behind, bundles, is_borne, pair, pull, sunk_behind, turning_loads, worth

# Ends 5 and 8; without a, b falls too.
TWO = (("a", 0, 2, 10), ("b", 3, 1, 5))
# Ends 2 and 29; b holds what breaks a.
ROW = (("a", 0, 3, 6), ("b", 4, 2, 50))
# Ends 5, 5 and 13.
ALIKE = (("a", 0, 2, 10), ("b", 3, 2, 4), ("c", 4, 1, 9))
# Each rope holds what breaks the ones ahead of it.
STAIRS = (("a", 0, 1, 1), ("b", 1, 1, 4), ("c", 5, 2, 9), ("d", 9, 1, 30))


def ends(bundle):
    return [slack + Fraction(strong, stiff) for _, slack, stiff, strong in bundle]


def loads_around(bundle):
    """Loads between, at and just above those at which something might change."""
    turning = sorted(turning_loads(bundle))
    return [Fraction(0)] + turning + [load + HAIR for load in turning] + [2 * turning[-1]]


class TableTests(unittest.TestCase):
    def test_one_rope(self):
        self.assertEqual(table((("a", 3, 2, 10),)), (((8, 1), (10, 1)),))

    def test_unlike_ends(self):
        self.assertEqual(table(TWO), (((5, 1), (12, 1)), ((8, 1), (5, 1))))
        self.assertEqual(table(ROW), (((2, 1), (6, 1)), ((29, 1), (50, 1))))
        self.assertEqual(table(STAIRS), (((1, 1), (1, 1)), ((5, 1), (4, 1)), ((19, 2), (19, 2)), ((39, 1), (30, 1))))

    def test_ends_that_are_alike_give_one_pair(self):
        self.assertEqual(table(ALIKE), (((5, 1), (15, 1)), ((13, 1), (9, 1))))
        self.assertEqual(table((("a", 0, 1, 5), ("b", 0, 2, 10), ("c", 4, 7, 7))), (((5, 1), (22, 1)),))

    def test_ends_that_are_fractions(self):
        self.assertEqual(table((("a", 0, 3, 7), ("b", 1, 2, 5))), (((7, 3), (29, 3)), ((7, 2), (5, 1))))
        self.assertEqual(table((("a", 0, 3, 7), ("b", 2, 6, 2))), (((7, 3), (9, 1)),))

    def test_rising_by_what_the_sinkings_are_worth(self):
        self.assertEqual(table((("a", 0, 3, 10), ("b", 0, 1, 5))), (((10, 3), (40, 3)), ((5, 1), (5, 1))))
        self.assertEqual(table((("a", 0, 1, 5), ("b", 0, 3, 10))), (((10, 3), (40, 3)), ((5, 1), (5, 1))))
        self.assertEqual(table((("a", 1000, 1, 1), ("b", 0, 1, 2))), (((2, 1), (2, 1)), ((1001, 1), (1, 1))))

    def test_a_rope_at_its_very_end_still_pulls(self):
        self.assertEqual(table((("a", 0, 1, 3), ("b", 0, 1, 4))), (((3, 1), (6, 1)), ((4, 1), (4, 1))))

    def test_at_the_bounds_of_a_rope(self):
        self.assertEqual(table((("a", 1000, 100, 1000000), ("b", 0, 1, 1), ("c", 0, 97, 1000000))),
                         (((1, 1), (98, 1)), ((1000000, 97), pair(1000000 + (Fraction(1000000, 97) - 1000) * 100)),
                          ((11000, 1), (1000000, 1))))

    def test_as_the_words_say(self):
        for bundle in bundles(41, 300):
            with self.subTest(bundle):
                expected = []
                for end in sorted(set(ends(bundle))):
                    lasting = [rope for rope, last in zip(bundle, ends(bundle)) if last >= end]
                    expected.append((pair(end), pair(sum(pull(rope, end) for rope in lasting))))
                self.assertEqual(table(bundle), tuple(expected))

    def test_by_its_name(self):
        self.assertEqual(table(bundle=TWO), table(TWO))


class GreatestTests(unittest.TestCase):
    def test_one_rope(self):
        self.assertEqual(greatest((("a", 3, 2, 10),)), ((10, 1), (8, 1)))

    def test_all_ropes_together(self):
        self.assertEqual(greatest(TWO), ((12, 1), (5, 1)))
        self.assertEqual(greatest(ALIKE), ((15, 1), (5, 1)))

    def test_some_ropes_broken(self):
        self.assertEqual(greatest(ROW), ((50, 1), (29, 1)))
        self.assertEqual(greatest(STAIRS), ((30, 1), (39, 1)))

    def test_a_fraction(self):
        self.assertEqual(greatest((("a", 0, 3, 7), ("b", 1, 2, 5))), ((29, 3), (7, 3)))

    def test_by_what_loads_are_worth(self):
        # 40 by 3 as a tuple is behind 14 by 1, but worth less.
        self.assertEqual(greatest((("a", 0, 3, 10), ("b", 0, 1, 14))), ((14, 1), (14, 1)))

    def test_one_load_at_two_ends_sinks_to_the_first(self):
        bundle = (("a", 0, 1, 5), ("b", 5, 1, 5))
        self.assertEqual(table(bundle), (((5, 1), (5, 1)), ((10, 1), (5, 1))))
        self.assertEqual(greatest(bundle), ((5, 1), (5, 1)))
        self.assertEqual(sinking(bundle, (), (5, 1)), (5, 1))

    def test_is_the_greatest_of_the_table_and_none_above_it_is_borne(self):
        for bundle in bundles(42, 120):
            with self.subTest(bundle):
                load, sunk = greatest(bundle)
                self.assertEqual(worth(load), max(worth(borne) for _, borne in table(bundle)))
                self.assertTrue(is_borne(bundle, worth(load)))
                self.assertIs(bears(bundle, (), load), True)
                self.assertEqual(pair(sunk_behind(bundle, worth(load))), sunk)
                self.assertFalse(is_borne(bundle, worth(load) + HAIR))
                self.assertIs(bears(bundle, (), pair(worth(load) + HAIR)), False)

    def test_each_lesser_one_is_borne_and_each_greater_one_is_not(self):
        for bundle in bundles(43, 60, 4):
            most = worth(greatest(bundle)[0])
            for load in loads_around(bundle):
                with self.subTest((bundle, load)):
                    self.assertEqual(is_borne(bundle, load), load <= most)
                    self.assertIs(bears(bundle, (), pair(load)), load <= most)

    def test_by_its_name(self):
        self.assertEqual(greatest(bundle=TWO), ((12, 1), (5, 1)))


class StepsTests(unittest.TestCase):
    def test_one_rope(self):
        self.assertEqual(steps((("a", 3, 2, 10),)), [((10, 1), ("a",))])

    def test_one_behind_another(self):
        self.assertEqual(steps(ROW), [((6, 1), ("a",)), ((50, 1), ("b",))])
        self.assertEqual(steps(STAIRS),
                         [((1, 1), ("a",)), ((4, 1), ("b",)), ((19, 2), ("c",)), ((30, 1), ("d",))])

    def test_several_ropes_at_one_step(self):
        self.assertEqual(steps(TWO), [((12, 1), ("a", "b"))])
        self.assertEqual(steps(ALIKE), [((15, 1), ("a", "b", "c"))])
        self.assertEqual(steps((("a", 0, 1, 2), ("b", 0, 1, 90), ("c", 0, 1, 2), ("d", 95, 1, 1))),
                         [((6, 1), ("a", "c")), ((90, 1), ("b", "d"))])

    def test_several_waves_at_one_step(self):
        bundle = (("a", 0, 1, 10), ("b", 0, 1, 12), ("c", 0, 1, 90))
        self.assertEqual(steps(bundle), [((30, 1), ("a", "b")), ((90, 1), ("c",))])
        self.assertEqual(waves(bundle, (), pair(30 + HAIR)), [("a",), ("b",)])

    def test_the_order_is_that_of_loads_not_of_names(self):
        self.assertEqual(steps((("a", 4, 2, 50), ("b", 0, 3, 6))), [((6, 1), ("b",)), ((50, 1), ("a",))])
        self.assertEqual(steps((("a", 9, 2, 100), ("b", 0, 1, 5), ("c", 0, 2, 15))),
                         [((15, 1), ("b", "c")), ((100, 1), ("a",))])
        # 40 by 3 as a tuple is behind 14 by 1, but worth less.
        self.assertEqual(steps((("a", 0, 3, 10), ("b", 0, 1, 14))), [((40, 3), ("a",)), ((14, 1), ("b",))])

    def test_loads_rise_and_each_name_comes_once(self):
        for bundle in bundles(44, 200):
            with self.subTest(bundle):
                told = steps(bundle)
                loads = [worth(load) for load, _ in told]
                self.assertEqual(loads, sorted(set(loads)))
                self.assertEqual(told[-1][0], greatest(bundle)[0])
                for _, names in told:
                    self.assertIsInstance(names, tuple)
                    self.assertEqual(list(names), sorted(names))
                    self.assertTrue(names)
                self.assertEqual(sorted(name for _, names in told for name in names), [rope[0] for rope in bundle])

    def test_between_two_steps_just_the_names_so_far_are_broken(self):
        for bundle in bundles(45, 60, 4):
            told = steps(bundle)
            for load in loads_around(bundle):
                with self.subTest((bundle, load)):
                    expected = sorted(name for above, names in told if load > worth(above) for name in names)
                    self.assertEqual(behind(bundle, (), load), tuple(expected))
                    self.assertEqual(broken_by(bundle, (), pair(load)), tuple(expected))

    def test_at_a_step_and_a_hair_above(self):
        for bundle in bundles(46, 60):
            gone = []
            for load, names in steps(bundle):
                with self.subTest((bundle, load)):
                    self.assertEqual(behind(bundle, (), worth(load)), tuple(sorted(gone)))
                    gone.extend(names)
                    self.assertEqual(behind(bundle, (), worth(load) + HAIR), tuple(sorted(gone)))

    def test_the_bundles_have_steps_of_one_and_of_several(self):
        many = {"one": 0, "several": 0, "steps": 0}
        for bundle in bundles(45, 60, 4):
            told = steps(bundle)
            many["steps"] += len(told) > 1
            for _, names in told:
                many["one" if len(names) == 1 else "several"] += 1
        for count in many.values():
            self.assertGreater(count, 10)

    def test_by_its_name(self):
        self.assertEqual(steps(bundle=TWO), steps(TWO))


if __name__ == "__main__":
    unittest.main()
