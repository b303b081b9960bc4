"""How far a load sinks the bar and how hard each rope is pulled: point [5]."""

import unittest

from strandpull.ropes import is_load, pulls, sinking
from tests.model import cases, left_of, pair, pull, sink, worth

# b begins to be drawn by a load of 6, c by one of 18.
STAIRS = (("a", 0, 2, 1000), ("b", 3, 1, 1000), ("c", 7, 4, 1000))
# The first by name is the last to be drawn.
LATE = (("a", 10, 5, 100), ("b", 4, 1, 100), ("c", 4, 2, 100), ("d", 0, 3, 100))


class SinkingTests(unittest.TestCase):
    def test_one_rope(self):
        self.assertEqual(sinking((("a", 5, 4, 10),), (), (6, 1)), (13, 2))
        self.assertEqual(sinking((("a", 0, 1, 10),), (), (7, 3)), (7, 3))

    def test_slack_ropes_that_are_not_yet_drawn(self):
        self.assertEqual(sinking(STAIRS, (), (1, 1)), (1, 2))
        self.assertEqual(sinking(STAIRS, (), (9, 1)), (4, 1))
        self.assertEqual(sinking(STAIRS, (), (10, 1)), (13, 3))

    def test_just_where_another_rope_begins_to_be_drawn(self):
        self.assertEqual(sinking(STAIRS, (), (6, 1)), (3, 1))
        self.assertEqual(sinking(STAIRS, (), (18, 1)), (7, 1))
        self.assertEqual(sinking(LATE, (), (12, 1)), (4, 1))
        self.assertEqual(sinking(LATE, (), (48, 1)), (10, 1))

    def test_a_hair_beyond_where_another_rope_begins_to_be_drawn(self):
        hair = 10 ** 30
        self.assertEqual(sinking(STAIRS, (), (6 * hair + 3, hair)), (3 * hair + 1, hair))
        self.assertEqual(sinking(STAIRS, (), (18 * hair + 7, hair)), (7 * hair + 1, hair))
        self.assertEqual(sinking(STAIRS, (), (6 * hair - 1, hair)), (6 * hair - 1, 2 * hair))

    def test_all_ropes_drawn(self):
        self.assertEqual(sinking(STAIRS, (), (25, 1)), (8, 1))
        self.assertEqual(sinking(LATE, (), (59, 1)), (11, 1))

    def test_the_strength_is_not_looked_at(self):
        self.assertEqual(sinking((("a", 1, 2, 1),), (), (100, 1)), (51, 1))
        self.assertEqual(pulls((("a", 1, 2, 1),), (), (100, 1)), [("a", (100, 1))])

    def test_a_load_of_nought(self):
        self.assertEqual(sinking(STAIRS, (), (0, 1)), (0, 1))
        self.assertEqual(sinking((("a", 5, 1, 1),), (), (0, 1)), (0, 1))
        self.assertEqual(sinking(STAIRS, ("a",), (0, 1)), (0, 1))

    def test_no_rope_left(self):
        everything = ("a", "b", "c")
        self.assertEqual(sinking(STAIRS, everything, (0, 1)), (0, 1))
        self.assertIsNone(sinking(STAIRS, everything, (1, 1)))
        self.assertIsNone(sinking(STAIRS, everything, (1, 10 ** 39)))

    def test_some_broken(self):
        self.assertEqual(sinking(STAIRS, ("a",), (3, 1)), (6, 1))
        self.assertEqual(sinking(STAIRS, ("b",), (20, 1)), (8, 1))
        self.assertEqual(sinking(STAIRS, ("a", "b"), (2, 1)), (15, 2))

    def test_loads_of_forty_figures(self):
        top = 10 ** 40 - 1
        bottom = 10 ** 39 + 7
        load = pair(worth((top, bottom)))
        self.assertEqual(sinking(STAIRS, (), load), pair(sink(STAIRS, worth(load))))
        great = (10 ** 40 - 1, 1)
        self.assertEqual(sinking(STAIRS, (), great), pair(worth((10 ** 40 - 1 + 31, 7))))
        little = (1, 10 ** 40 - 1)
        self.assertEqual(sinking(STAIRS, (), little), (1, 2 * (10 ** 40 - 1)))

    def test_as_the_words_say(self):
        for bundle, broken, load in cases(5, 400):
            with self.subTest((bundle, broken, load)):
                expected = sink(left_of(bundle, broken), worth(load))
                told = sinking(bundle, broken, load)
                self.assertEqual(told, None if expected is None else pair(expected))

    def test_by_their_names(self):
        self.assertEqual(sinking(bundle=STAIRS, broken=(), load=(9, 1)), (4, 1))
        self.assertEqual(pulls(bundle=STAIRS, broken=("b", "c"), load=(9, 1)), [("a", (9, 1))])


class PullsTests(unittest.TestCase):
    def test_slack_ropes_pull_nothing(self):
        self.assertEqual(pulls(STAIRS, (), (1, 1)), [("a", (1, 1)), ("b", (0, 1)), ("c", (0, 1))])
        self.assertEqual(pulls(STAIRS, (), (10, 1)), [("a", (26, 3)), ("b", (4, 3)), ("c", (0, 1))])

    def test_just_where_another_rope_begins_to_be_drawn(self):
        self.assertEqual(pulls(STAIRS, (), (6, 1)), [("a", (6, 1)), ("b", (0, 1)), ("c", (0, 1))])
        self.assertEqual(pulls(STAIRS, (), (18, 1)), [("a", (14, 1)), ("b", (4, 1)), ("c", (0, 1))])

    def test_all_ropes_drawn_told_by_name_not_by_slack(self):
        self.assertEqual(pulls(LATE, (), (59, 1)),
                         [("a", (5, 1)), ("b", (7, 1)), ("c", (14, 1)), ("d", (33, 1))])

    def test_a_load_of_nought(self):
        self.assertEqual(pulls(STAIRS, (), (0, 1)), [("a", (0, 1)), ("b", (0, 1)), ("c", (0, 1))])

    def test_no_rope_left(self):
        self.assertEqual(pulls(STAIRS, ("a", "b", "c"), (0, 1)), [])
        self.assertEqual(pulls(STAIRS, ("a", "b", "c"), (5, 1)), [])

    def test_broken_ropes_are_not_told(self):
        self.assertEqual(pulls(STAIRS, ("b",), (20, 1)), [("a", (16, 1)), ("c", (4, 1))])
        self.assertEqual(pulls(STAIRS, ("a", "c"), (1, 3)), [("b", (1, 3))])

    def test_loads_of_forty_figures_add_up(self):
        load = pair(worth((10 ** 40 - 1, 10 ** 38 + 9)))
        told = pulls(STAIRS, (), load)
        self.assertEqual(sum(worth(part) for _, part in told), worth(load))
        self.assertTrue(all(is_load(part) for _, part in told))
        load = (10 ** 40 - 1, 7)
        self.assertEqual(sum(worth(part) for _, part in pulls(LATE, ("c",), load)), worth(load))

    def test_as_the_words_say(self):
        for bundle, broken, load in cases(6, 400):
            with self.subTest((bundle, broken, load)):
                left = left_of(bundle, broken)
                sunk = sink(left, worth(load))
                told = pulls(bundle, broken, load)
                self.assertEqual(told, [(rope[0], pair(pull(rope, sunk))) for rope in left])
                if left:
                    self.assertEqual(sum(worth(part) for _, part in told), worth(load))


if __name__ == "__main__":
    unittest.main()
