"""What is a bundle and what is a load, of anything: points [2] and [4]."""

import unittest

from strandpull.ropes import is_bundle, is_load
from tests.model import ANYTHING

ROPE = ("a", 3, 2, 10)
NAMES = ("a", "b", "c", "d", "e", "f", "g")


def ropes(many):
    return tuple((name, 0, 1, 1) for name in NAMES[:many])


class BundleTests(unittest.TestCase):
    def told(self, thing, right):
        with self.subTest(thing):
            self.assertIs(is_bundle(thing), right)

    def with_part(self, at, part, right):
        rope = ROPE[:at] + (part,) + ROPE[at + 1:]
        self.told((rope,), right)

    def test_right_ones(self):
        self.told((ROPE,), True)
        self.told((("a", 0, 1, 1), ("b", 1000, 100, 1000000)), True)
        self.told((("a", 5, 9, 7), ("aa", 0, 1, 1), ("ab", 0, 1, 1), ("b", 0, 1, 1)), True)

    def test_from_one_to_six_ropes(self):
        self.told(ropes(0), False)
        for many in range(1, 7):
            self.told(ropes(many), True)
        self.told(ropes(7), False)

    def test_slack_at_and_beyond_its_bounds(self):
        for slack, right in ((0, True), (1000, True), (-1, False), (1001, False), (10 ** 39, False)):
            self.with_part(1, slack, right)

    def test_stiff_at_and_beyond_its_bounds(self):
        for stiff, right in ((1, True), (100, True), (0, False), (-1, False), (101, False)):
            self.with_part(2, stiff, right)

    def test_strong_at_and_beyond_its_bounds(self):
        for strong, right in ((1, True), (1000000, True), (0, False), (-1, False), (1000001, False)):
            self.with_part(3, strong, right)

    def test_names_from_one_to_eight_letters(self):
        for name, right in (("", False), ("a", True), ("z", True), ("abcdefgh", True), ("abcdefghi", False)):
            self.with_part(0, name, right)

    def test_names_of_small_letters_alone(self):
        for name in ("A", "aB", "a1", "1", "a b", " a", "a ", "a\n", "\n", "a_", "a-b", "`", "{", "~", "a{",
                     "\u00e9", "a\u00df", "\u0430", "\u03b1"):
            self.with_part(0, name, False)

    def test_names_that_are_no_texts(self):
        for name in (None, 1, True, ("a",), ["a"], b"a"):
            self.with_part(0, name, False)

    def test_names_alike(self):
        self.told((ROPE, ROPE), False)
        self.told((("a", 0, 1, 1), ("a", 0, 1, 2)), False)
        self.told((("a", 0, 1, 1), ("a", 1, 1, 1), ("b", 0, 1, 1)), False)
        self.told((("a", 0, 1, 1), ("b", 0, 1, 1), ("b", 1, 1, 1)), False)

    def test_ropes_that_do_not_rise(self):
        self.told((("b", 0, 1, 1), ("a", 0, 1, 1)), False)
        self.told((("a", 0, 1, 1), ("c", 0, 1, 1), ("b", 0, 1, 1)), False)
        self.told((("b", 0, 1, 1), ("a", 0, 1, 1), ("c", 0, 1, 1)), False)
        self.told((("ab", 0, 1, 1), ("aa", 9, 9, 9)), False)
        self.told((("aa", 0, 1, 1), ("a", 9, 9, 9)), False)
        self.told((("a", 0, 1, 1), ("b", 0, 1, 1), ("a", 1, 1, 1)), False)

    def test_lists_in_place_of_tuples(self):
        self.told([ROPE], False)
        self.told((list(ROPE),), False)
        self.told([list(ROPE)], False)
        self.told((ROPE, ["b", 0, 1, 1]), False)

    def test_truths_in_place_of_numbers(self):
        for at in (1, 2, 3):
            self.with_part(at, True, False)
            self.with_part(at, False, False)

    def test_other_things_in_place_of_numbers(self):
        for at in (1, 2, 3):
            for part in (None, "1", "", (1,), [1], (1, 1), 1.0):
                self.with_part(at, part, False)

    def test_parts_missing_or_too_many(self):
        for many in range(4):
            self.told((ROPE[:many],), False)
        self.told((ROPE + (1,),), False)
        self.told((ROPE + ROPE,), False)
        self.told((ROPE, ("b", 0, 1)), False)

    def test_one_wrong_rope_among_right_ones(self):
        for wrong in (None, 1, "b", (), [], ("b", 0, 0, 1), ("b", 0, 1, True), ROPE[1:]):
            self.told((ROPE, wrong, ("c", 0, 1, 1)), False)

    def test_a_rope_alone_is_no_bundle(self):
        self.told(ROPE, False)

    def test_anything(self):
        for thing in ANYTHING:
            self.told(thing, False)

    def test_by_its_name(self):
        self.assertIs(is_bundle(thing=(ROPE,)), True)


class LoadTests(unittest.TestCase):
    def told(self, thing, right):
        with self.subTest(thing):
            self.assertIs(is_load(thing), right)

    def test_right_ones(self):
        for thing in ((1, 1), (7, 2), (2, 7), (1, 1000), (1000000, 1), (9, 10), (35, 36)):
            self.told(thing, True)

    def test_nought_is_one_fraction_alone(self):
        self.told((0, 1), True)
        for bottom in (0, 2, 3, 10 ** 39, -1):
            self.told((0, bottom), False)

    def test_a_common_divisor(self):
        for thing in ((2, 2), (2, 4), (6, 3), (10, 15), (35, 21), (10 ** 39, 10), (3 * 10 ** 38, 9)):
            self.told(thing, False)

    def test_a_bottom_of_nought_or_less(self):
        for thing in ((1, 0), (5, 0), (1, -1), (1, -2), (-1, 0)):
            self.told(thing, False)

    def test_below_nought(self):
        for thing in ((-1, 1), (-1, 2), (-7, 3), (-1, -1), (-3, -2)):
            self.told(thing, False)

    def test_forty_figures(self):
        self.told((10 ** 40 - 1, 10 ** 39), True)
        self.told((10 ** 39, 10 ** 40 - 1), True)
        self.told((10 ** 40 - 2, 2 * 10 ** 39), False)

    def test_what_was_told_may_have_more_figures(self):
        self.told((10 ** 60, 7 ** 60), True)

    def test_truths_in_place_of_numbers(self):
        for thing in ((True, 1), (1, True), (True, True), (False, 1), (False, True), (0, True)):
            self.told(thing, False)

    def test_a_list_in_place_of_a_tuple(self):
        self.told([1, 2], False)
        self.told([0, 1], False)

    def test_parts_missing_or_too_many(self):
        for thing in ((), (1,), (1, 2, 3), (0, 1, 1)):
            self.told(thing, False)

    def test_other_things_in_place_of_numbers(self):
        for part in (None, "1", "", (1,), [1], (1, 1), 1.0):
            self.told((part, 1), False)
            self.told((1, part), False)

    def test_a_pair_of_numbers_alone(self):
        self.told(1, False)
        self.told("12", False)

    def test_anything(self):
        for thing in ANYTHING:
            self.told(thing, False)

    def test_by_its_name(self):
        self.assertIs(is_load(thing=(1, 2)), True)


if __name__ == "__main__":
    unittest.main()
