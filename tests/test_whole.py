"""What holds over sinkings, pulls and waves as a whole, points [3] and [2]: no order matters, nothing is shared."""

import copy
import unittest
from itertools import permutations

from strandpull.ropes import is_bundle, is_load, pulls, sinking
from strandpull.waves import bears, broken_by, by_loads, waves
from tests.model import cases, ends_one_by_one, pair, worth

BUNDLE = (("a", 0, 2, 10), ("b", 3, 1, 5), ("c", 3, 1, 60))


def times(told, many):
    return pair(worth(told) * many)


def answers(bundle, broken, load):
    """All that is told of a bundle with some broken and a load."""
    return [is_bundle(bundle), is_load(load), sinking(bundle, broken, load), pulls(bundle, broken, load),
            waves(bundle, broken, load), broken_by(bundle, broken, load), bears(bundle, broken, load),
            by_loads(bundle, [load, (1, 1), load])]


class OrderTests(unittest.TestCase):
    def test_the_same_are_broken_in_whatever_order_they_give_way(self):
        for bundle, broken, load in cases(31, 300):
            with self.subTest((bundle, broken, load)):
                self.assertEqual(ends_one_by_one(bundle, broken, worth(load)), {broken_by(bundle, broken, load)})

    def test_the_same_are_broken_in_whatever_order_the_loads_come(self):
        loads = [(9, 1), (25, 2), (0, 1), (18, 1)]
        for row in permutations(loads):
            with self.subTest(row):
                self.assertEqual(by_loads(BUNDLE, list(row))[-1][0], ("a", "b"))
        self.assertEqual(broken_by(BUNDLE, (), (18, 1)), ("a", "b"))
        self.assertEqual(broken_by(BUNDLE, (), (25, 2)), ())

    def test_the_greatest_of_the_loads_alone_counts(self):
        told_cases = list(cases(32, 400))
        for at in range(0, 400, 4):
            bundle = told_cases[at][0]
            loads = [told_cases[at + more][2] for more in range(4)]
            with self.subTest((bundle, loads)):
                alone = broken_by(bundle, (), max(loads, key=worth))
                for row in permutations(loads):
                    self.assertEqual(by_loads(bundle, list(row))[-1][0], alone)

    def test_a_row_of_loads_with_some_broken_at_first(self):
        told_cases = list(cases(33, 300))
        for at in range(0, 300, 3):
            bundle, first, _ = told_cases[at]
            loads = [told_cases[at + more][2] for more in range(3)]
            with self.subTest((bundle, first, loads)):
                alone = broken_by(bundle, first, max(loads, key=worth))
                for row in permutations(loads):
                    broken = first
                    for load in row:
                        broken = broken_by(bundle, broken, load)
                    self.assertEqual(broken, alone)

    def test_what_is_left_pulls_just_the_load_and_none_more_than_its_strength(self):
        for bundle, first, load in cases(34, 400):
            with self.subTest((bundle, first, load)):
                broken = broken_by(bundle, first, load)
                told = pulls(bundle, broken, load)
                strong = {rope[0]: rope[3] for rope in bundle}
                self.assertEqual([name for name, _ in told], [name for name in strong if name not in broken])
                for name, part in told:
                    self.assertLessEqual(worth(part), strong[name])
                if told:
                    self.assertEqual(sum(worth(part) for _, part in told), worth(load))

    def test_the_cases_break_none_some_and_all(self):
        ends = {"none": 0, "some": 0, "all": 0, "waves": 0}
        for bundle, first, load in cases(34, 400):
            many = len(broken_by(bundle, first, load)) - len(first)
            ends["none" if many == 0 else "all" if many == len(bundle) - len(first) else "some"] += 1
            ends["waves"] += len(waves(bundle, first, load)) > 1
        for many in ends.values():
            self.assertGreater(many, 20)


class ScaleTests(unittest.TestCase):
    def test_stiffnesses_strengths_and_loads_so_many_times_as_great(self):
        for bundle, broken, load in cases(35, 200):
            with self.subTest((bundle, broken, load)):
                great = tuple((name, slack, 7 * stiff, 7 * strong) for name, slack, stiff, strong in bundle)
                heavy = times(load, 7)
                self.assertEqual(sinking(great, broken, heavy), sinking(bundle, broken, load))
                self.assertEqual(pulls(great, broken, heavy),
                                 [(name, times(part, 7)) for name, part in pulls(bundle, broken, load)])
                self.assertEqual(waves(great, broken, heavy), waves(bundle, broken, load))

    def test_slacks_strengths_and_loads_so_many_times_as_great(self):
        for bundle, broken, load in cases(36, 200):
            with self.subTest((bundle, broken, load)):
                great = tuple((name, 7 * slack, stiff, 7 * strong) for name, slack, stiff, strong in bundle)
                heavy = times(load, 7)
                sunk = sinking(bundle, broken, load)
                self.assertEqual(sinking(great, broken, heavy), None if sunk is None else times(sunk, 7))
                self.assertEqual(waves(great, broken, heavy), waves(bundle, broken, load))


class OwnTests(unittest.TestCase):
    def test_nothing_that_is_handed_in_is_changed(self):
        loads = [(9, 1), (20, 1), (0, 1)]
        kept = copy.deepcopy(loads)
        by_loads(BUNDLE, loads)
        self.assertEqual(loads, kept)
        thing = [["a", 0, 1, 1], [1, 2], "a"]
        kept = copy.deepcopy(thing)
        is_bundle(thing)
        is_load(thing)
        self.assertEqual(thing, kept)

    def test_the_same_asked_again_is_answered_the_same(self):
        for bundle, broken, load in cases(37, 60):
            with self.subTest((bundle, broken, load)):
                first = answers(bundle, broken, load)
                answers(BUNDLE, ("b",), (17, 3))
                self.assertEqual(answers(bundle, broken, load), first)

    def test_a_list_that_was_told_is_the_askers_own(self):
        for ask in (lambda: pulls(BUNDLE, (), (30, 1)), lambda: pulls(BUNDLE, ("a", "b", "c"), (30, 1)),
                    lambda: waves(BUNDLE, (), (30, 1)), lambda: waves(BUNDLE, (), (1, 1)),
                    lambda: by_loads(BUNDLE, [(30, 1), (1, 1)]), lambda: by_loads(BUNDLE, [])):
            told = ask()
            kept = copy.deepcopy(told)
            other = ask()
            told.append("more")
            told.reverse()
            self.assertEqual(other, kept)
            self.assertEqual(ask(), kept)

    def test_what_is_told_does_not_follow_a_list_handed_in(self):
        loads = [(9, 1), (20, 1)]
        told = by_loads(BUNDLE, loads)
        kept = copy.deepcopy(told)
        loads[0] = (0, 1)
        loads.append((3, 1))
        self.assertEqual(told, kept)

    def test_the_kinds_of_what_is_told(self):
        self.assertIsInstance(sinking(BUNDLE, (), (9, 1)), tuple)
        self.assertIsInstance(broken_by(BUNDLE, (), (30, 1)), tuple)
        self.assertTrue(all(isinstance(wave, tuple) for wave in waves(BUNDLE, (), (30, 1))))
        self.assertTrue(all(isinstance(row, tuple) for row in pulls(BUNDLE, (), (30, 1))))
        for row in by_loads(BUNDLE, [(9, 1), (30, 1), (1000, 1)]):
            self.assertIsInstance(row, tuple)
            self.assertIsInstance(row[0], tuple)

    def test_each_function_is_defined_in_its_file(self):
        for function in (is_bundle, is_load, sinking, pulls):
            self.assertEqual(function.__module__, "strandpull.ropes")
        for function in (waves, broken_by, bears, by_loads):
            self.assertEqual(function.__module__, "strandpull.waves")

    def test_what_was_told_may_be_handed_in_again(self):
        load = pair(worth((10 ** 40 - 1, 10 ** 39 + 7)))
        sunk = sinking(BUNDLE, (), load)
        for _ in range(4):
            self.assertTrue(is_load(sunk))
            sunk = sinking(BUNDLE, (), sunk)
        self.assertTrue(is_load(sunk))


if __name__ == "__main__":
    unittest.main()
