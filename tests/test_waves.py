"""What breaks in which waves, and what comes of loads one behind the other: points [6] and [7]."""

import unittest

from strandpull.waves import bears, broken_by, by_loads, waves
from tests.model import cases, ends_one_by_one, left_of, pair, sink, too_much, worth

# a pulls just its strength by a load of 12, where the bar has sunk by 5.
TWO = (("a", 0, 2, 10), ("b", 3, 1, 5))
# Each one is stronger than those ahead of it, but none alone bears a load of 41.
ROW = (("a", 0, 1, 10), ("b", 0, 1, 12), ("c", 0, 1, 16), ("d", 0, 1, 40))
HAIR = 10 ** 30


class WavesTests(unittest.TestCase):
    def test_nothing_breaks(self):
        self.assertEqual(waves(TWO, (), (9, 1)), [])
        self.assertEqual(broken_by(TWO, (), (9, 1)), ())
        self.assertIs(bears(TWO, (), (9, 1)), True)

    def test_just_the_strength_is_no_break(self):
        self.assertEqual(waves(TWO, (), (12, 1)), [])
        self.assertEqual(broken_by(TWO, (), (12, 1)), ())
        self.assertIs(bears(TWO, (), (12, 1)), True)
        self.assertEqual(waves((("a", 9, 7, 3),), (), (3, 1)), [])

    def test_a_hair_more_is_a_break(self):
        load = (12 * HAIR + 1, HAIR)
        self.assertEqual(waves(TWO, (), load), [("a",), ("b",)])
        self.assertEqual(broken_by(TWO, (), load), ("a", "b"))
        self.assertIs(bears(TWO, (), load), False)
        self.assertEqual(waves((("a", 9, 7, 3),), (), (3 * HAIR + 1, HAIR)), [("a",)])
        self.assertEqual(waves((("a", 9, 7, 3),), (), (3 * HAIR - 1, HAIR)), [])

    def test_several_waves_one_behind_another(self):
        self.assertEqual(waves(ROW, (), (41, 1)), [("a",), ("b",), ("c",), ("d",)])
        self.assertEqual(waves(ROW, (), (161, 4)), [("a",), ("b",), ("c",), ("d",)])

    def test_waves_that_stop_before_all_are_broken(self):
        self.assertEqual(waves((("a", 0, 1, 1), ("b", 0, 1, 2), ("c", 0, 1, 100)), (), (5, 1)), [("a",), ("b",)])
        self.assertEqual(broken_by((("a", 0, 1, 1), ("b", 0, 1, 2), ("c", 0, 1, 100)), (), (5, 1)), ("a", "b"))
        self.assertIs(bears((("a", 0, 1, 1), ("b", 0, 1, 2), ("c", 0, 1, 100)), (), (5, 1)), True)

    def test_all_that_give_way_break_at_once(self):
        self.assertEqual(waves(ROW, (), (48, 1)), [("a",), ("b",), ("c",), ("d",)])
        self.assertEqual(waves(ROW, (), (50, 1)), [("a", "b"), ("c",), ("d",)])
        self.assertEqual(waves(ROW, (), (68, 1)), [("a", "b", "c"), ("d",)])
        self.assertEqual(waves(ROW, (), (1000, 1)), [("a", "b", "c", "d")])

    def test_a_later_wave_may_have_earlier_names(self):
        bundle = (("a", 0, 1, 20), ("b", 9, 1, 20), ("c", 0, 3, 5))
        self.assertEqual(waves(bundle, (), (24, 1)), [("c",)])
        self.assertEqual(waves(bundle, (), (32, 1)), [("c",), ("a",), ("b",)])
        self.assertEqual(broken_by(bundle, (), (32, 1)), ("a", "b", "c"))

    def test_broken_behind_the_waves_rises(self):
        bundle = (("a", 0, 1, 3), ("b", 0, 1, 100), ("c", 0, 1, 2), ("d", 0, 1, 100))
        self.assertEqual(waves(bundle, ("d",), (7, 1)), [("c",), ("a",)])
        self.assertEqual(broken_by(bundle, ("d",), (7, 1)), ("a", "c", "d"))

    def test_ropes_broken_before(self):
        self.assertEqual(waves(ROW, ("d",), (31, 1)), [("a",), ("b",), ("c",)])
        self.assertEqual(waves(ROW, ("d",), (30, 1)), [])
        self.assertEqual(broken_by(ROW, ("d",), (30, 1)), ("d",))
        self.assertEqual(broken_by(ROW, ("d",), (31, 1)), ("a", "b", "c", "d"))
        self.assertIs(bears(ROW, ("d",), (30, 1)), True)
        self.assertIs(bears(ROW, ("d",), (31, 1)), False)
        self.assertEqual(waves(ROW, ("a", "b", "c"), (40, 1)), [])

    def test_no_rope_left(self):
        everything = ("a", "b", "c", "d")
        self.assertEqual(waves(ROW, everything, (5, 1)), [])
        self.assertEqual(broken_by(ROW, everything, (5, 1)), everything)
        self.assertIs(bears(ROW, everything, (5, 1)), False)
        self.assertIs(bears(ROW, everything, (1, 10 ** 39)), False)

    def test_a_load_of_nought(self):
        everything = ("a", "b", "c", "d")
        for broken in ((), ("b",), everything):
            with self.subTest(broken):
                self.assertEqual(waves(ROW, broken, (0, 1)), [])
                self.assertEqual(broken_by(ROW, broken, (0, 1)), broken)
                self.assertIs(bears(ROW, broken, (0, 1)), True)

    def test_loads_of_forty_figures(self):
        bottom = 10 ** 39
        self.assertEqual(waves(ROW, (), (40 * bottom // 10 + 1, bottom)), [])
        self.assertEqual(waves(TWO, (), (10 ** 40 - 1, 1)), [("a", "b")])
        self.assertIs(bears(TWO, (), (1, 10 ** 40 - 1)), True)

    def test_as_the_words_say(self):
        for bundle, broken, load in cases(7, 400):
            with self.subTest((bundle, broken, load)):
                gone = set(broken)
                expected = []
                while too_much(left_of(bundle, gone), worth(load)):
                    expected.append(tuple(sorted(too_much(left_of(bundle, gone), worth(load)))))
                    gone.update(expected[-1])
                self.assertEqual(waves(bundle, broken, load), expected)
                self.assertEqual(broken_by(bundle, broken, load), tuple(sorted(gone)))
                self.assertIs(bears(bundle, broken, load), load == (0, 1) or len(gone) < len(bundle))

    def test_by_their_names(self):
        self.assertEqual(waves(bundle=TWO, broken=("a",), load=(6, 1)), [("b",)])
        self.assertEqual(broken_by(bundle=TWO, broken=("a",), load=(6, 1)), ("a", "b"))
        self.assertIs(bears(bundle=TWO, broken=("a",), load=(5, 1)), True)


class LoadsTests(unittest.TestCase):
    def test_no_loads(self):
        self.assertEqual(by_loads(TWO, []), [])

    def test_one_load(self):
        self.assertEqual(by_loads(TWO, [(9, 1)]), [((), (4, 1))])
        self.assertEqual(by_loads(TWO, [(13, 1)]), [(("a", "b"), None)])

    def test_a_load_comes_in_the_place_of_the_one_ahead(self):
        self.assertEqual(by_loads(TWO, [(9, 1), (6, 1), (12, 1)]), [((), (4, 1)), ((), (3, 1)), ((), (5, 1))])

    def test_a_lesser_load_behind_a_greater_one(self):
        bundle = (("a", 0, 3, 6), ("b", 4, 2, 50))
        self.assertEqual(by_loads(bundle, [(3, 1), (8, 1), (3, 1), (0, 1), (2, 1)]),
                         [((), (1, 1)), (("a",), (8, 1)), (("a",), (11, 2)), (("a",), (0, 1)), (("a",), (5, 1))])

    def test_no_rope_left_with_and_without_a_load(self):
        self.assertEqual(by_loads(TWO, [(13, 1), (0, 1), (1, 7), (0, 1)]),
                         [(("a", "b"), None), (("a", "b"), (0, 1)), (("a", "b"), None), (("a", "b"), (0, 1))])

    def test_a_load_of_nought_alone(self):
        self.assertEqual(by_loads(TWO, [(0, 1)]), [((), (0, 1))])

    def test_twenty_loads(self):
        loads = [(many, 1) for many in range(1, 21)]
        told = by_loads((("a", 0, 1, 5), ("b", 2, 1, 7), ("c", 3, 2, 11)), loads)
        self.assertEqual(len(told), 20)
        self.assertEqual(told[0], ((), (1, 1)))
        self.assertEqual(told[3], ((), (3, 1)))
        self.assertEqual(told[11], ((), (5, 1)))
        self.assertEqual(told[12], (("a",), (7, 1)))
        self.assertEqual(told[13], (("a",), (22, 3)))
        self.assertEqual(told[14], (("a",), (23, 3)))
        self.assertEqual(told[15], (("a",), (8, 1)))
        self.assertEqual(told[16], (("a",), (25, 3)))
        self.assertEqual(told[17], (("a", "b", "c"), None))
        self.assertEqual(told[19], (("a", "b", "c"), None))

    def test_as_the_words_say(self):
        told_cases = list(cases(8, 300))
        for at in range(0, 300, 3):
            bundle = told_cases[at][0]
            loads = [told_cases[at + more][2] for more in range(3)]
            with self.subTest((bundle, loads)):
                broken = ()
                expected = []
                for load in loads:
                    (broken,) = ends_one_by_one(bundle, broken, worth(load))
                    sunk = sink(left_of(bundle, broken), worth(load))
                    expected.append((broken, None if sunk is None else pair(sunk)))
                self.assertEqual(by_loads(bundle, loads), expected)

    def test_by_their_names(self):
        self.assertEqual(by_loads(bundle=TWO, loads=[(9, 1)]), [((), (4, 1))])


if __name__ == "__main__":
    unittest.main()
