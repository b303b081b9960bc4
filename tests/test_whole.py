"""What holds over the program as a whole, points [3] and [2]: no order matters, nothing is shared."""

import copy
import unittest
from itertools import permutations

from strandpull.chains import chain_sinks, parting, weakest
from strandpull.errors import PullError
from strandpull.growing import greatest, steps, table
from strandpull.others import fewest_doubled, guards, unseen, whole_till
from strandpull.ropes import is_bundle, is_load, pulls, sinking
from strandpull.waves import bears, broken_by, by_loads, waves
from strandpull.works import Works
from tests.model import bundles, cases, ends_one_by_one, left_of, pair, worth

BUNDLE = (("a", 0, 2, 10), ("b", 3, 1, 5), ("c", 3, 1, 60))


def answers(bundle, broken, load):
    """All that is told of a bundle with some broken and a load, by what it is: loads, sinkings, or neither."""
    names = [rope[0] for rope in bundle]
    left = [rope[0] for rope in left_of(bundle, broken)]
    sunk = sinking(bundle, (), load)
    slacks = [unseen(bundle, name, load, sunk) for name in names]
    rows = by_loads(bundle, [load, heavier(load), load])
    chain = (bundle, bundle, bundle[:1])
    loads = [pulls(bundle, broken, load), [borne for _, borne in table(bundle)], greatest(bundle)[0],
             [step for step, _ in steps(bundle)], [whole_till(bundle, broken, name) for name in left],
             weakest(chain)[0], [parting(bundle, bundle[at:]) for at in range(len(bundle))]]
    sinkings = [sinking(bundle, broken, load), [row[1] for row in rows], [end for end, _ in table(bundle)],
                greatest(bundle)[1], slacks, chain_sinks(chain, load), chain_sinks((bundle,), lighter(bundle))]
    neither = [is_load(load), waves(bundle, broken, load), broken_by(bundle, broken, load),
               bears(bundle, broken, load), [row[0] for row in rows], [gone for _, gone in steps(bundle)],
               guards(bundle), fewest_doubled(bundle, load), fewest_doubled(bundle, heavier(load)), weakest(chain)[1]]
    return loads, sinkings, neither


def heavier(load):
    return pair(worth(load) * 3 / 2)


def lighter(bundle):
    return pair(worth(greatest(bundle)[0]) * 4 / 5)


def worked(bundle, load):
    """All that is told of a works with the ropes of a bundle, by what it is: loads, sinkings, or neither."""
    works = Works()
    for rope in bundle:
        works.put(rope)
    loads, sinkings, neither = [], [], []
    for hung in (lighter(bundle), load, (0, 1), load, heavier(load)):
        neither.append(hang_or_refusal(works, hung))
        for name in works.broken()[:1]:
            neither.append(splice_or_refusal(works, name))
        loads.append((works.load(), [told for told, _ in works.log()]))
        sinkings.append(works.sinking())
        neither.append((works.broken(), [gone for _, gone in works.log()], works.fell(), len(works)))
    return loads, sinkings, neither


def hang_or_refusal(works, load):
    try:
        return works.hang(load)
    except PullError as refusal:
        return type(refusal)


def splice_or_refusal(works, name):
    try:
        return works.splice(name)
    except PullError as refusal:
        return type(refusal)


def times(told, many):
    """What was told with each fraction in it so many times as great."""
    if is_load(told):
        return pair(worth(told) * many)
    if isinstance(told, (list, tuple)):
        return type(told)([times(part, many) for part in told])
    return told


class OrderTests(unittest.TestCase):
    def test_the_same_are_broken_in_whatever_order_they_give_way(self):
        for bundle, broken, load in cases(31, 300):
            with self.subTest((bundle, broken, load)):
                self.assertEqual(ends_one_by_one(bundle, broken, worth(load)), {broken_by(bundle, broken, load)})

    def test_the_same_are_broken_in_whatever_order_the_loads_come(self):
        loads = [(9, 1), (25, 2), (0, 1), (18, 1)]
        for row in permutations(loads):
            with self.subTest(row):
                self.assertEqual(by_loads(BUNDLE, list(row))[-1][0], ("a", "b"))
        self.assertEqual(broken_by(BUNDLE, (), (18, 1)), ("a", "b"))
        self.assertEqual(broken_by(BUNDLE, (), (25, 2)), ())

    def test_the_greatest_of_the_loads_alone_counts(self):
        told_cases = list(cases(32, 400))
        for at in range(0, 400, 4):
            bundle = told_cases[at][0]
            loads = [told_cases[at + more][2] for more in range(4)]
            with self.subTest((bundle, loads)):
                alone = broken_by(bundle, (), max(loads, key=worth))
                for row in permutations(loads):
                    self.assertEqual(by_loads(bundle, list(row))[-1][0], alone)

    def test_a_row_of_loads_with_some_broken_at_first(self):
        told_cases = list(cases(33, 300))
        for at in range(0, 300, 3):
            bundle, first, _ = told_cases[at]
            loads = [told_cases[at + more][2] for more in range(3)]
            with self.subTest((bundle, first, loads)):
                alone = broken_by(bundle, first, max(loads, key=worth))
                for row in permutations(loads):
                    broken = first
                    for load in row:
                        broken = broken_by(bundle, broken, load)
                    self.assertEqual(broken, alone)

    def test_what_is_left_pulls_just_the_load_and_none_more_than_its_strength(self):
        for bundle, first, load in cases(34, 400):
            with self.subTest((bundle, first, load)):
                broken = broken_by(bundle, first, load)
                told = pulls(bundle, broken, load)
                strong = {rope[0]: rope[3] for rope in bundle}
                self.assertEqual([name for name, _ in told], [name for name in strong if name not in broken])
                for name, part in told:
                    self.assertLessEqual(worth(part), strong[name])
                if told:
                    self.assertEqual(sum(worth(part) for _, part in told), worth(load))

    def test_the_cases_break_none_some_and_all(self):
        ends = {"none": 0, "some": 0, "all": 0, "waves": 0}
        for bundle, first, load in cases(34, 400):
            many = len(broken_by(bundle, first, load)) - len(first)
            ends["none" if many == 0 else "all" if many == len(bundle) - len(first) else "some"] += 1
            ends["waves"] += len(waves(bundle, first, load)) > 1
        for many in ends.values():
            self.assertGreater(many, 20)


class GreatestTests(unittest.TestCase):
    def test_none_above_the_told_greatest_is_borne_and_each_lesser_one_is(self):
        for bundle, _, load in cases(38, 300):
            with self.subTest((bundle, load)):
                most = greatest(bundle)[0]
                self.assertEqual(bears(bundle, (), load), worth(load) <= worth(most))
                self.assertIs(bears(bundle, (), most), True)
                self.assertIn(most, [borne for _, borne in table(bundle)])
                self.assertEqual(worth(most), max(worth(borne) for _, borne in table(bundle)))

    def test_a_rope_gone_never_lets_another_one_bear_more(self):
        for bundle, broken, load in cases(39, 300):
            with self.subTest((bundle, broken, load)):
                more = broken_by(bundle, broken, load)
                for name in [rope[0] for rope in left_of(bundle, more)]:
                    self.assertLessEqual(worth(whole_till(bundle, more, name)),
                                         worth(whole_till(bundle, broken, name)))
                    self.assertGreaterEqual(worth(whole_till(bundle, broken, name)), worth(load))


class ScaleTests(unittest.TestCase):
    def great(self, bundle, at, many):
        """The bundle with the parts at these places so many times as great."""
        told = tuple(tuple(part * many if place in at else part for place, part in enumerate(rope)) for rope in bundle)
        self.assertTrue(is_bundle(told))
        return told

    def test_stiffnesses_strengths_and_loads_so_many_times_as_great(self):
        for bundle, broken, load in cases(35, 150):
            for many in (2, 7):
                with self.subTest((bundle, broken, load, many)):
                    great = self.great(bundle, (2, 3), many)
                    for ask in (answers, lambda ropes, gone, hung: worked(ropes, hung)):
                        loads, sinkings, neither = ask(bundle, broken, load)
                        told = ask(great, broken, times(load, many))
                        self.assertEqual(told, (times(loads, many), sinkings, neither))

    def test_slacks_strengths_and_loads_so_many_times_as_great(self):
        for bundle, broken, load in cases(36, 150):
            for many in (2, 7):
                with self.subTest((bundle, broken, load, many)):
                    great = self.great(bundle, (1, 3), many)
                    for ask in (answers, lambda ropes, gone, hung: worked(ropes, hung)):
                        loads, sinkings, neither = ask(bundle, broken, load)
                        told = ask(great, broken, times(load, many))
                        self.assertEqual(told, (times(loads, many), times(sinkings, many), neither))

    def test_ropes_drawn_tighter_so_many_times_as_much(self):
        for bundle in bundles(30, 60):
            one = Works()
            other = Works()
            for rope, great in zip(bundle, self.great(bundle, (1, 3), 5)):
                one.put(rope)
                other.put(great)
                if rope[1] > 2:
                    one.tighten(rope[0], rope[1] - 2)
                    other.tighten(rope[0], (rope[1] - 2) * 5)
            self.assertEqual(other.ropes(), self.great(one.ropes(), (1, 3), 5))


class OwnTests(unittest.TestCase):
    def test_nothing_that_is_handed_in_is_changed(self):
        loads = [(9, 1), (20, 1), (0, 1)]
        kept = copy.deepcopy(loads)
        by_loads(BUNDLE, loads)
        self.assertEqual(loads, kept)
        told = copy.deepcopy(BUNDLE)
        answers(told, ("b",), (9, 1))
        self.assertEqual(told, BUNDLE)
        thing = [["a", 0, 1, 1], [1, 2], "a"]
        kept = copy.deepcopy(thing)
        is_bundle(thing)
        is_load(thing)
        self.assertEqual(thing, kept)

    def test_the_same_asked_again_is_answered_the_same(self):
        for bundle, broken, load in cases(37, 60):
            with self.subTest((bundle, broken, load)):
                first = answers(bundle, broken, load)
                answers(BUNDLE, ("b",), (17, 3))
                self.assertEqual(answers(bundle, broken, load), first)

    def test_a_list_that_was_told_is_the_askers_own(self):
        for ask in (lambda: pulls(BUNDLE, (), (30, 1)), lambda: pulls(BUNDLE, ("a", "b", "c"), (30, 1)),
                    lambda: waves(BUNDLE, (), (30, 1)), lambda: waves(BUNDLE, (), (1, 1)),
                    lambda: by_loads(BUNDLE, [(30, 1), (1, 1)]), lambda: by_loads(BUNDLE, []),
                    lambda: steps(BUNDLE), lambda: guards(BUNDLE), lambda: guards(BUNDLE[:1]),
                    lambda: chain_sinks((BUNDLE, BUNDLE), (9, 1))):
            told = ask()
            kept = copy.deepcopy(told)
            other = ask()
            told.append("more")
            told.reverse()
            self.assertEqual(other, kept)
            self.assertEqual(ask(), kept)

    def test_what_is_told_does_not_follow_a_list_handed_in(self):
        loads = [(9, 1), (20, 1)]
        told = by_loads(BUNDLE, loads)
        kept = copy.deepcopy(told)
        loads[0] = (0, 1)
        loads.append((3, 1))
        self.assertEqual(told, kept)

    def test_the_kinds_of_what_is_told(self):
        self.assertIsInstance(sinking(BUNDLE, (), (9, 1)), tuple)
        self.assertIsInstance(broken_by(BUNDLE, (), (30, 1)), tuple)
        self.assertTrue(all(isinstance(wave, tuple) for wave in waves(BUNDLE, (), (30, 1))))
        self.assertTrue(all(isinstance(row, tuple) for row in pulls(BUNDLE, (), (30, 1))))
        for row in by_loads(BUNDLE, [(9, 1), (30, 1), (1000, 1)]):
            self.assertIsInstance(row, tuple)
            self.assertIsInstance(row[0], tuple)

    def test_the_kinds_of_all_the_rest(self):
        for told in (table(BUNDLE), greatest(BUNDLE), whole_till(BUNDLE, (), "a"), unseen(BUNDLE, "c", (9, 1), (4, 1)),
                     fewest_doubled(BUNDLE, (9, 1)), fewest_doubled(BUNDLE, (70, 1)), weakest((BUNDLE,)),
                     parting(BUNDLE, BUNDLE[:1]), *table(BUNDLE), *steps(BUNDLE), *guards(BUNDLE)):
            self.assertIsInstance(told, tuple)
        for told in (steps(BUNDLE), guards(BUNDLE), chain_sinks((BUNDLE,), (9, 1))):
            self.assertIsInstance(told, list)
        for told in (*greatest(BUNDLE), whole_till(BUNDLE, (), "a"), parting(BUNDLE, BUNDLE[:1]),
                     weakest((BUNDLE,))[0], *chain_sinks((BUNDLE,), (9, 1)), *[step for step, _ in steps(BUNDLE)]):
            self.assertTrue(is_load(told))
        self.assertIs(type(weakest((BUNDLE,))[1]), int)

    def test_each_function_is_defined_in_its_file(self):
        for file, functions in (("ropes", (is_bundle, is_load, sinking, pulls)),
                                ("waves", (waves, broken_by, bears, by_loads)),
                                ("growing", (table, greatest, steps)),
                                ("others", (whole_till, guards, unseen, fewest_doubled)),
                                ("chains", (chain_sinks, weakest, parting)),
                                ("works", (Works,))):
            for function in functions:
                self.assertEqual(function.__module__, "strandpull." + file)

    def test_what_was_told_may_be_handed_in_again(self):
        load = pair(worth((10 ** 40 - 1, 10 ** 39 + 7)))
        sunk = sinking(BUNDLE, (), load)
        for _ in range(4):
            self.assertTrue(is_load(sunk))
            sunk = sinking(BUNDLE, (), sunk)
        self.assertTrue(is_load(sunk))


if __name__ == "__main__":
    unittest.main()
