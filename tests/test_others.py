"""Ropes for one another, an unseen slack, the fewest ropes to be given twice their strength: [10], [11] and [12]."""

import random
import unittest
from fractions import Fraction
from itertools import combinations

from strandpull.others import fewest_doubled, guards, unseen, whole_till
from strandpull.waves import bears, broken_by
from tests.model import HAIR, behind, bundles, cases, is_borne, left_of, pair, pull, sink, some_load, too_much, worth

TWO = (("a", 0, 2, 10), ("b", 3, 1, 5))
ROW = (("a", 0, 3, 6), ("b", 4, 2, 50))
# a holds for b, but b is not yet drawn where a breaks.
ONE_WAY = (("a", 0, 1, 5), ("b", 5, 1, 3))
THREE = (("a", 0, 1, 5), ("b", 0, 1, 5), ("c", 0, 1, 5))


class WholeTillTests(unittest.TestCase):
    def test_nothing_broken(self):
        self.assertEqual(whole_till(TWO, (), "a"), (12, 1))
        self.assertEqual(whole_till(TWO, (), "b"), (12, 1))
        self.assertEqual(whole_till(ROW, (), "a"), (6, 1))
        self.assertEqual(whole_till(ROW, (), "b"), (50, 1))

    def test_others_broken_at_first(self):
        self.assertEqual(whole_till(TWO, ("a",), "b"), (5, 1))
        self.assertEqual(whole_till(TWO, ("b",), "a"), (10, 1))
        self.assertEqual(whole_till(THREE, (), "b"), (15, 1))
        self.assertEqual(whole_till(THREE, ("c",), "b"), (10, 1))
        self.assertEqual(whole_till(THREE, ("a", "c"), "b"), (5, 1))

    def test_a_fraction(self):
        self.assertEqual(whole_till((("a", 0, 3, 7), ("b", 1, 2, 5)), (), "a"), (29, 3))

    def test_a_rope_that_bears_less_alone_than_where_others_end(self):
        bundle = (("a", 0, 1, 2), ("b", 1, 4, 20), ("c", 9, 1, 7))
        self.assertEqual(whole_till(bundle, (), "a"), (6, 1))
        self.assertEqual(whole_till(bundle, (), "c"), (20, 1))
        self.assertEqual(whole_till(bundle, ("b",), "c"), (7, 1))

    def test_the_told_load_leaves_it_whole_and_a_hair_more_does_not(self):
        for bundle, broken, _ in cases(51, 150):
            for name in [rope[0] for rope in left_of(bundle, broken)]:
                with self.subTest((bundle, broken, name)):
                    told = whole_till(bundle, broken, name)
                    self.assertNotIn(name, behind(bundle, broken, worth(told)))
                    self.assertNotIn(name, broken_by(bundle, broken, told))
                    self.assertIn(name, behind(bundle, broken, worth(told) + HAIR))
                    self.assertIn(name, broken_by(bundle, broken, pair(worth(told) + HAIR)))
                    self.assertIn(name, behind(bundle, broken, 3 * worth(told)))

    def test_a_rope_gone_never_lets_another_one_bear_more(self):
        for bundle, broken, _ in cases(52, 200):
            left = [rope[0] for rope in left_of(bundle, broken)]
            for one in left:
                for other in left:
                    if one != other:
                        with self.subTest((bundle, broken, one, other)):
                            more = tuple(sorted((*broken, one)))
                            self.assertLessEqual(worth(whole_till(bundle, more, other)),
                                                 worth(whole_till(bundle, broken, other)))

    def test_by_their_names(self):
        self.assertEqual(whole_till(bundle=TWO, broken=("a",), name="b"), (5, 1))


class GuardsTests(unittest.TestCase):
    def test_one_rope_guards_nothing(self):
        self.assertEqual(guards((("a", 0, 1, 5),)), [])

    def test_each_the_other(self):
        self.assertEqual(guards(TWO), [("a", "b"), ("b", "a")])

    def test_none(self):
        self.assertEqual(guards(ROW), [])

    def test_one_way_alone(self):
        self.assertEqual(guards(ONE_WAY), [("a", "b")])
        self.assertEqual(guards((("a", 5, 1, 3), ("b", 0, 1, 5))), [("b", "a")])

    def test_all_pairs_rising(self):
        self.assertEqual(guards(THREE), [("a", "b"), ("a", "c"), ("b", "a"), ("b", "c"), ("c", "a"), ("c", "b")])

    def test_some_pairs(self):
        # Where a breaks c isn't drawn yet; b breaks by the load that it bears with c.
        bundle = (("a", 0, 1, 2), ("b", 1, 4, 20), ("c", 5, 1, 7))
        self.assertEqual(guards(bundle), [("b", "a"), ("b", "c"), ("c", "b")])

    def test_without_the_one_the_other_breaks_by_a_lesser_load(self):
        for bundle in bundles(53, 100):
            names = [rope[0] for rope in bundle]
            told = guards(bundle)
            self.assertIsInstance(told, list)
            self.assertEqual(told, sorted(set(told)))
            for one in names:
                for other in names:
                    with self.subTest((bundle, one, other)):
                        load = worth(whole_till(bundle, (), other))
                        expected = one != other and other in behind(bundle, (one,), load)
                        self.assertEqual((one, other) in told, expected)

    def test_by_its_name(self):
        self.assertEqual(guards(bundle=ONE_WAY), [("a", "b")])


def does(bundle, name, slack, load, sunk):
    """Whether with this slack the load sinks the bar just so far and breaks nothing."""
    seen = tuple((rope[0], slack, rope[2], rope[3]) if rope[0] == name else rope for rope in bundle)
    return sink(seen, load) == sunk and not too_much(seen, load)


class UnseenTests(unittest.TestCase):
    def test_one_slack(self):
        # By 4 a pulls 8, so that b pulls 1 of 9.
        self.assertEqual(unseen(TWO, "b", (9, 1), (4, 1)), ((3, 1), (3, 1)))
        self.assertEqual(unseen(TWO, "a", (9, 1), (4, 1)), ((0, 1), (0, 1)))

    def test_a_fraction(self):
        self.assertEqual(unseen(TWO, "a", (9, 1), (5, 1)), ((3, 2), (3, 2)))
        self.assertEqual(unseen(TWO, "b", (17, 2), (4, 1)), ((7, 2), (7, 2)))
        slack = pair(Fraction(2, 3) - Fraction(3, 35))
        self.assertEqual(unseen((("a", 0, 7, 100),), "a", (3, 5), (2, 3)), (slack, slack))

    def test_a_rope_that_pulls_nothing(self):
        self.assertEqual(unseen(TWO, "b", (8, 1), (4, 1)), ((4, 1), None))
        self.assertEqual(unseen(TWO, "b", (1, 3), (1, 6)), ((1, 6), None))
        self.assertEqual(unseen((("a", 0, 1, 5000), ("b", 0, 1, 1)), "b", (2000, 1), (2000, 1)), ((2000, 1), None))

    def test_what_the_bundle_has_there_is_not_looked_at(self):
        for slack in (0, 1, 3, 4, 1000):
            bundle = (("a", 0, 2, 10), ("b", slack, 1, 5))
            self.assertEqual(unseen(bundle, "b", (9, 1), (4, 1)), ((3, 1), (3, 1)))
            self.assertEqual(unseen(bundle, "b", (8, 1), (4, 1)), ((4, 1), None))
            self.assertIsNone(unseen(bundle, "b", (7, 1), (4, 1)))

    def test_the_others_pull_too_much_already(self):
        self.assertIsNone(unseen(TWO, "b", (7, 1), (4, 1)))
        self.assertIsNone(unseen(TWO, "b", pair(8 - HAIR), (4, 1)))

    def test_no_slack_is_little_enough(self):
        self.assertEqual(unseen(TWO, "b", (12, 1), (4, 1)), ((0, 1), (0, 1)))
        self.assertIsNone(unseen(TWO, "b", pair(12 + HAIR), (4, 1)))
        self.assertIsNone(unseen((("a", 0, 2, 100),), "a", (9, 1), (4, 1)))

    def test_the_rope_itself_would_break(self):
        self.assertEqual(unseen((("a", 0, 2, 10),), "a", (10, 1), (9, 1)), ((4, 1), (4, 1)))
        self.assertIsNone(unseen((("a", 0, 2, 10),), "a", pair(10 + HAIR), (9, 1)))
        self.assertIsNone(unseen((("a", 0, 2, 10),), "a", (11, 1), (9, 1)))

    def test_another_rope_would_break(self):
        self.assertEqual(unseen(TWO, "b", (13, 1), (5, 1)), ((2, 1), (2, 1)))
        self.assertIsNone(unseen(TWO, "b", (13, 1), (6, 1)))
        self.assertEqual(unseen(TWO, "b", (10, 1), (5, 1)), ((5, 1), None))
        self.assertIsNone(unseen(TWO, "b", (12, 1), (6, 1)))

    def test_a_load_of_nought(self):
        self.assertEqual(unseen(TWO, "b", (0, 1), (0, 1)), ((0, 1), None))
        self.assertEqual(unseen((("a", 9, 2, 100),), "a", (0, 1), (0, 1)), ((0, 1), None))
        self.assertIsNone(unseen(TWO, "b", (0, 1), (3, 1)))
        self.assertIsNone(unseen((("a", 9, 2, 100), ("b", 0, 1, 1)), "b", (0, 1), (3, 1)))
        self.assertIsNone(unseen((("a", 9, 2, 100),), "a", (0, 1), (1, 1)))

    def test_a_sinking_of_nought(self):
        self.assertIsNone(unseen(TWO, "a", (1, 1), (0, 1)))
        self.assertIsNone(unseen(TWO, "b", (1, 10 ** 39), (0, 1)))
        self.assertIsNone(unseen((("a", 9, 2, 100),), "a", (1, 1), (0, 1)))

    def test_an_unseen_slack_is_one_of_those_told(self):
        chance = random.Random(54)
        kinds = {"one": 0, "all": 0, "none": 0}
        for bundle, _, load in cases(55, 500):
            at = chance.randrange(len(bundle))
            name, _, stiff, strong = bundle[at]
            slack = Fraction(chance.randint(0, 40), chance.choice((1, 2, 3, 7)))
            seen = bundle[:at] + ((name, slack, stiff, strong),) + bundle[at + 1:]
            load = Fraction(worth(load) / chance.choice((1, 4, 9)))
            sunk = sink(seen, load)
            with self.subTest((bundle, name, load, sunk)):
                told = unseen(bundle, name, pair(load), pair(sunk))
                if not does(bundle, name, slack, load, sunk):
                    kinds["none"] += 1
                    self.assertIsNone(told)
                elif load > 0 and slack < sunk:
                    kinds["one"] += 1
                    self.assertEqual(told, (pair(slack), pair(slack)))
                else:
                    kinds["all"] += 1
                    self.assertEqual(told, (pair(sunk), None))
        for many in kinds.values():
            self.assertGreater(many, 50)

    def test_just_those_told_can_be_it(self):
        chance = random.Random(56)
        kinds = {"one": 0, "all": 0, "none": 0}
        for bundle, _, _ in cases(57, 200):
            name = chance.choice(bundle)[0]
            sunk = Fraction(chance.randint(0, 20), chance.choice((1, 2, 3)))
            rest = sum(pull(rope, sunk) for rope in bundle if rope[0] != name)
            load = max(Fraction(0), rest + Fraction(chance.randint(-3, 12), chance.choice((1, 2, 5))))
            load = chance.choice((load, rest))
            with self.subTest((bundle, name, load, sunk)):
                told = unseen(bundle, name, pair(load), pair(sunk))
                right = []
                wrong = [Fraction(many, 3) for many in range(0, 75, 5)] + [sunk]
                if told is not None:
                    least = worth(told[0])
                    most = least + 2000 if told[1] is None else worth(told[1])
                    right = [least, (least + most) / 2, most]
                    wrong = [slack for slack in (*wrong, least - HAIR) if 0 <= slack < least]
                    wrong += [] if told[1] is None else [most + HAIR, most + 1, most + 3000]
                kinds["none" if told is None else "all" if told[1] is None else "one"] += 1
                for slack in right:
                    self.assertTrue(does(bundle, name, slack, load, sunk), slack)
                for slack in wrong:
                    self.assertFalse(does(bundle, name, slack, load, sunk), slack)
        for many in kinds.values():
            self.assertGreater(many, 20)

    def test_forty_figures(self):
        load = (10 ** 40 - 1, 10 ** 39)
        sunk = (10 ** 40 - 1, 10 ** 39 + 9)
        told = unseen((("a", 5, 3, 100),), "a", load, sunk)
        self.assertEqual(told, (pair(worth(sunk) - worth(load) / 3),) * 2)

    def test_by_their_names(self):
        self.assertEqual(unseen(bundle=TWO, name="b", load=(9, 1), sunk=(4, 1)), ((3, 1), (3, 1)))


def with_twice(bundle, chosen):
    return tuple((*rope[:3], rope[3] * 2) if rope[0] in chosen else rope for rope in bundle)


class DoubledTests(unittest.TestCase):
    def test_none_needed(self):
        self.assertEqual(fewest_doubled(THREE, (15, 1)), ())
        self.assertEqual(fewest_doubled(THREE, (0, 1)), ())
        self.assertEqual(fewest_doubled(ROW, (50, 1)), ())

    def test_some_needed(self):
        self.assertEqual(fewest_doubled(THREE, pair(15 + HAIR)), ("a", "b"))
        self.assertEqual(fewest_doubled(THREE, (20, 1)), ("a", "b"))
        self.assertEqual(fewest_doubled(ROW, (51, 1)), ("b",))

    def test_all_needed(self):
        self.assertEqual(fewest_doubled(THREE, pair(20 + HAIR)), ("a", "b", "c"))
        self.assertEqual(fewest_doubled(THREE, (30, 1)), ("a", "b", "c"))
        self.assertEqual(fewest_doubled((("a", 7, 3, 9),), (18, 1)), ("a",))

    def test_all_do_not_do(self):
        self.assertIsNone(fewest_doubled(THREE, pair(30 + HAIR)))
        self.assertIsNone(fewest_doubled((("a", 7, 3, 9),), (19, 1)))
        self.assertIsNone(fewest_doubled(TWO, (10 ** 40 - 1, 1)))

    def test_of_as_few_the_first(self):
        # a lets it bear 12, b 27, c 18.
        bundle = (("a", 0, 1, 3), ("b", 0, 1, 9), ("c", 9, 1, 9))
        self.assertEqual(fewest_doubled(bundle, (12, 1)), ("a",))
        self.assertEqual(fewest_doubled(bundle, (18, 1)), ("b",))
        self.assertEqual(fewest_doubled(bundle, (27, 1)), ("b",))
        self.assertEqual(fewest_doubled((("a", 0, 1, 3), ("b", 0, 2, 20), ("c", 0, 2, 20)), (41, 1)), ("b", "c"))

    def test_beyond_the_strength_of_a_rope(self):
        self.assertEqual(fewest_doubled((("a", 0, 100, 1000000),), (2000000, 1)), ("a",))

    def test_no_fewer_do_and_none_ahead(self):
        kinds = {}
        chance = random.Random(58)
        for bundle in bundles(59, 120, 4):
            load = worth(some_load(chance, bundle)) * 2
            with self.subTest((bundle, load)):
                names = [rope[0] for rope in bundle]
                right = [chosen for many in range(len(names) + 1) for chosen in combinations(names, many)
                         if is_borne(with_twice(bundle, chosen), load)]
                expected = right[0] if right else None
                told = fewest_doubled(bundle, pair(load))
                self.assertEqual(told, expected)
                kind = None if told is None else "all" if len(told) == len(bundle) else len(told)
                kinds[kind] = kinds.get(kind, 0) + 1
                if told:
                    self.assertIs(bears(with_twice(bundle, told), (), pair(load)), True)
        for kind in (None, "all", 0, 1, 2):
            self.assertGreater(kinds[kind], 3, kind)

    def test_by_their_names(self):
        self.assertEqual(fewest_doubled(bundle=THREE, load=(15, 1)), ())


if __name__ == "__main__":
    unittest.main()
