"""A works that goes on load by load: point [15], and what [2] and [3] promise of it."""

import random
import unittest

from strandpull import errors
from strandpull.ropes import is_load
from strandpull.waves import by_loads
from strandpull.works import Works
from tests.model import ANYTHING, HAIR, NAMES, behind, left_of, nested, pair, sink, too_much, worth

A = ("a", 0, 2, 10)
B = ("b", 3, 1, 5)
# Breaks by more than 6; LATE then holds up to 50.
SOON = ("s", 0, 3, 6)
LATE = ("t", 4, 2, 50)
SIX = tuple((name, 2, 1, 5) for name in "abcdef")
NO_NAMES = ANYTHING + ("s ", "S", "ss", ("s",), ["s"], "longernames", b"s")


def works_of(*ropes):
    works = Works()
    for rope in ropes:
        works.put(rope)
    return works


def state(works):
    """All that is told of a works."""
    return (works.ropes(), works.broken(), works.load(), works.sinking(), works.log(), works.fell(), len(works),
            works.busy)


class WorksCase(unittest.TestCase):
    def refused(self, works, kind, deed, *parts):
        """The refusal, which is of just this class and changes nothing."""
        before = state(works)
        with self.assertRaises(errors.PullError) as held:
            getattr(works, deed)(*parts)
        self.assertEqual(type(held.exception), kind, (deed, parts))
        self.assertEqual(state(works), before)
        return held.exception


class BeginTests(WorksCase):
    def test_it_begins_without_ropes_and_load(self):
        works = Works()
        self.assertEqual(state(works), ((), (), (0, 1), (0, 1), [], 0, 0, False))
        self.assertIs(works.busy, False)

    def test_two_works_share_nothing(self):
        one = works_of(SOON, LATE)
        other = Works()
        one.hang((8, 1))
        self.assertEqual(state(other), state(Works()))

    def test_its_methods_stand_in_the_class_itself(self):
        for name in ("put", "splice", "tighten", "hang", "ropes", "broken", "load", "sinking", "log", "fell", "__len__",
                     "__init__"):
            self.assertIn(name, Works.__dict__)
        self.assertEqual(Works.__module__, "strandpull.works")


class PutTests(WorksCase):
    def test_ropes_are_told_rising_in_whatever_order_they_are_put_in(self):
        works = Works()
        self.assertIsNone(works.put(B))
        self.assertEqual(works.ropes(), (B,))
        works.put(LATE)
        works.put(A)
        self.assertEqual(works.ropes(), (A, B, LATE))
        self.assertEqual(len(works), 3)
        self.assertEqual((works.broken(), works.load(), works.sinking(), works.log()), ((), (0, 1), (0, 1), []))

    def test_at_the_bounds_of_a_rope(self):
        for rope in (("a", 0, 1, 1), ("zzzzzzzz", 1000, 100, 1000000)):
            self.assertEqual(works_of(rope).ropes(), (rope,))

    def test_no_rope_of_anything(self):
        for works in (Works(), works_of(A, B), works_of(*SIX)):
            for thing in (*ANYTHING, list(A), (A,), ("", 0, 1, 1), ("a", -1, 1, 1), ("a", 1001, 1, 1), ("a", 0, 0, 1),
                          ("a", 0, 101, 1), ("a", 0, 1, 0), ("a", 0, 1, 1000001), ("a", True, 1, 1), ("a", 0, True, 1),
                          ("a", 0, 1, True), ("A", 0, 1, 1), ("ninewords", 0, 1, 1), (None, 0, 1, 1), (["a"], 0, 1, 1),
                          ("a", 0, 1), ("a", 0, 1, 1, 1), ("a", (0, 1), 1, 1), ("a", "0", 1, 1), ("a", 0, [1], 1)):
                self.refused(works, errors.NoRope, "put", thing)

    def test_taken(self):
        works = works_of(A, B)
        self.refused(works, errors.Taken, "put", A)
        self.refused(works, errors.Taken, "put", ("b", 9, 9, 9))

    def test_taken_by_a_broken_rope(self):
        works = works_of(SOON, LATE)
        works.hang((8, 1))
        works.hang((0, 1))
        self.assertEqual(works.broken(), ("s",))
        self.refused(works, errors.Taken, "put", SOON)

    def test_full(self):
        works = works_of(*SIX[:5])
        works.put(SIX[5])
        self.assertEqual(works.ropes(), SIX)
        self.refused(works, errors.Full, "put", ("g", 0, 1, 1))

    def test_full_of_broken_ropes(self):
        works = works_of(*SIX)
        works.hang((31, 1))
        self.assertEqual(len(works), 0)
        self.refused(works, errors.Full, "put", ("g", 0, 1, 1))

    def test_hung(self):
        works = works_of(A)
        works.hang((7, 2))
        self.assertEqual(self.refused(works, errors.Hung, "put", B).weight, (7, 2))
        works.hang((1, 10 ** 39))
        self.assertEqual(self.refused(works, errors.Hung, "put", B).weight, (1, 10 ** 39))

    def test_put_again_where_no_load_hangs_any_more(self):
        works = works_of(A)
        works.hang((7, 2))
        works.hang((0, 1))
        works.put(B)
        self.assertEqual(works.ropes(), (A, B))

    def test_put_behind_a_load_that_fell(self):
        works = works_of(A)
        works.hang((11, 1))
        works.put(B)
        self.assertEqual((works.ropes(), works.broken(), len(works)), ((A, B), ("a",), 1))

    def test_the_one_told_first_goes_first(self):
        works = works_of(*SIX)
        works.hang((1, 1))
        self.refused(works, errors.NoRope, "put", ("a", 0, 1, 0))
        self.refused(works, errors.Taken, "put", ("a", 0, 1, 1))
        self.refused(works, errors.Full, "put", ("g", 0, 1, 1))
        works = works_of(A)
        works.hang((1, 1))
        self.refused(works, errors.NoRope, "put", None)
        self.refused(works, errors.Taken, "put", A)
        self.refused(works, errors.Hung, "put", B)


class HangTests(WorksCase):
    def test_nothing_breaks(self):
        works = works_of(A, B)
        self.assertEqual(works.hang((9, 1)), [])
        self.assertEqual(state(works), ((A, B), (), (9, 1), (4, 1), [], 0, 2, False))

    def test_in_the_place_of_the_one_that_hangs(self):
        works = works_of(A, B)
        for load, sunk in (((9, 1), (4, 1)), ((12, 1), (5, 1)), ((6, 1), (3, 1)), ((0, 1), (0, 1)), ((1, 1), (1, 2))):
            self.assertEqual(works.hang(load), [])
            self.assertEqual((works.load(), works.sinking()), (load, sunk))
        self.assertEqual(works.log(), [])

    def test_some_break(self):
        works = works_of(LATE, SOON)
        self.assertEqual(works.hang((8, 1)), [("s",)])
        self.assertEqual(state(works), ((SOON, LATE), ("s",), (8, 1), (8, 1), [((8, 1), ("s",))], 0, 1, False))

    def test_waves_are_told_one_behind_another_and_logged_together(self):
        works = works_of(("a", 0, 1, 3), ("b", 0, 1, 100), ("c", 0, 1, 2))
        self.assertEqual(works.hang((7, 1)), [("c",), ("a",)])
        self.assertEqual(works.log(), [((7, 1), ("a", "c"))])
        self.assertEqual(works.broken(), ("a", "c"))
        self.assertEqual((works.load(), works.sinking(), works.fell(), len(works)), ((7, 1), (7, 1), 0, 1))

    def test_broken_ones_of_before_are_not_told_again(self):
        works = works_of(("a", 0, 1, 20), ("b", 0, 1, 2), ("c", 0, 1, 5))
        self.assertEqual(works.hang((9, 1)), [("b",)])
        self.assertEqual(works.hang((9, 1)), [])
        self.assertEqual(works.hang((11, 1)), [("c",)])
        self.assertEqual(works.broken(), ("b", "c"))
        self.assertEqual(works.hang((21, 1)), [("a",)])
        self.assertEqual(works.broken(), ("a", "b", "c"))
        self.assertEqual(works.log(), [((9, 1), ("b",)), ((11, 1), ("c",)), ((21, 1), ("a",))])

    def test_a_load_falls(self):
        works = works_of(A, B)
        self.assertEqual(works.hang((13, 1)), [("a",), ("b",)])
        self.assertEqual(state(works), ((A, B), ("a", "b"), (0, 1), (0, 1), [((13, 1), ("a", "b"))], 1, 0, False))

    def test_a_load_falls_in_the_place_of_one_that_hung(self):
        works = works_of(A)
        works.hang((10, 1))
        self.assertEqual(works.hang(pair(10 + HAIR)), [("a",)])
        self.assertEqual((works.load(), works.sinking(), works.fell()), ((0, 1), (0, 1), 1))

    def test_how_often_a_load_fell(self):
        works = works_of(A)
        for many in range(1, 4):
            works.hang((11, 1))
            self.assertEqual(works.fell(), many)
            self.refused(works, errors.NoRopes, "hang", (11, 1))
            works.splice("a")
        works.hang((10, 1))
        self.assertEqual(works.fell(), 3)
        self.assertEqual(works.log(), [((11, 1), ("a",))] * 3)

    def test_no_load_of_anything(self):
        hung = works_of(A, B)
        hung.hang((9, 1))
        for works in (Works(), works_of(A), hung):
            for thing in (*ANYTHING, [1, 2], (2, 4), (0, 2), (1, 0), (-1, 2), (1, -2), (True, 1), (1, True), (1, 2, 3),
                          ("1", 2), (1, None), ((1, 2), 3), nested((1, 2), 20, tuple)):
                self.refused(works, errors.NoLoad, "hang", thing)

    def test_no_ropes(self):
        self.refused(Works(), errors.NoRopes, "hang", (1, 1))
        self.refused(Works(), errors.NoRopes, "hang", (1, 10 ** 39))
        works = works_of(A)
        works.hang((11, 1))
        self.refused(works, errors.NoRopes, "hang", (1, 1))

    def test_no_load_goes_ahead_of_no_ropes(self):
        self.refused(Works(), errors.NoLoad, "hang", (2, 2))

    def test_a_load_of_nought_where_no_rope_is_whole(self):
        works = Works()
        self.assertEqual(works.hang((0, 1)), [])
        self.assertEqual(state(works), state(Works()))
        works = works_of(A)
        works.hang((11, 1))
        before = state(works)
        self.assertEqual(works.hang((0, 1)), [])
        self.assertEqual(state(works), before)

    def test_forty_figures_and_what_was_told(self):
        works = works_of(A, LATE)
        load = (10 ** 40 - 1, 10 ** 39)
        works.hang(load)
        self.assertEqual(works.load(), load)
        works.hang(works.sinking())
        self.assertTrue(is_load(works.sinking()))
        works.hang((10 ** 40 - 1, 1))
        self.assertEqual(works.fell(), 1)

    def test_as_by_loads(self):
        bundle = (("a", 0, 1, 5), ("b", 2, 1, 7), ("c", 3, 2, 11))
        works = works_of(*bundle)
        loads = [(3, 1), (12, 1), (13, 1), (2, 1), (17, 1), (0, 1), (5, 2)]
        for load, (broken, sunk) in zip(loads, by_loads(bundle, loads)):
            works.hang(load)
            self.assertEqual((works.broken(), works.sinking()), (broken, sunk))


class SpliceTests(WorksCase):
    def broken_works(self):
        works = works_of(SOON, LATE)
        works.hang((8, 1))
        return works

    def test_it_is_whole_again_as_it_was(self):
        works = self.broken_works()
        works.hang((0, 1))
        self.assertEqual(len(works), 1)
        self.assertIsNone(works.splice("s"))
        self.assertEqual(state(works), ((SOON, LATE), (), (0, 1), (0, 1), [((8, 1), ("s",))], 0, 2, False))
        self.assertEqual(works.hang((6, 1)), [])
        self.assertEqual(works.sinking(), (2, 1))
        self.assertEqual(works.hang((7, 1)), [("s",)])
        self.assertEqual(works.log(), [((8, 1), ("s",)), ((7, 1), ("s",))])

    def test_one_of_several(self):
        works = works_of(*SIX)
        works.hang((31, 1))
        works.splice("d")
        works.splice("b")
        self.assertEqual(works.broken(), ("a", "c", "e", "f"))
        self.assertEqual(len(works), 2)
        self.assertEqual(works.ropes(), SIX)

    def test_no_name_of_anything(self):
        works = self.broken_works()
        for thing in NO_NAMES:
            self.refused(works, errors.NoName, "splice", thing)
        self.refused(Works(), errors.NoName, "splice", "a")

    def test_whole(self):
        works = works_of(A, B)
        self.assertEqual(self.refused(works, errors.Whole, "splice", "b").name, "b")
        works = self.broken_works()
        works.hang((0, 1))
        self.assertEqual(self.refused(works, errors.Whole, "splice", "t").name, "t")
        works.splice("s")
        self.assertEqual(self.refused(works, errors.Whole, "splice", "s").name, "s")

    def test_hung(self):
        works = self.broken_works()
        self.assertEqual(self.refused(works, errors.Hung, "splice", "s").weight, (8, 1))
        works.hang((1, 3))
        self.assertEqual(self.refused(works, errors.Hung, "splice", "s").weight, (1, 3))

    def test_the_one_told_first_goes_first(self):
        works = self.broken_works()
        self.refused(works, errors.NoName, "splice", "u")
        self.refused(works, errors.Whole, "splice", "t")
        self.refused(works, errors.Hung, "splice", "s")

    def test_behind_a_load_that_fell(self):
        works = works_of(A)
        works.hang((11, 1))
        works.splice("a")
        self.assertEqual((works.broken(), len(works), works.fell()), ((), 1, 1))
        self.assertEqual(works.hang((10, 1)), [])


class TightenTests(WorksCase):
    def test_its_slack_is_so_much_less(self):
        works = works_of(A, B)
        self.assertIsNone(works.tighten("b", 2))
        self.assertEqual(works.ropes(), (A, ("b", 1, 1, 5)))
        self.assertEqual(works.hang((5, 1)), [])
        self.assertEqual(works.sinking(), (2, 1))

    def test_to_no_slack_at_all(self):
        works = works_of(B)
        works.tighten("b", 1)
        works.tighten("b", 2)
        self.assertEqual(works.ropes(), (("b", 0, 1, 5),))
        self.refused(works, errors.NoNumber, "tighten", "b", 1)
        works = works_of(("a", 1000, 1, 1))
        works.tighten("a", 1000)
        self.assertEqual(works.ropes(), (("a", 0, 1, 1),))

    def test_no_name_of_anything(self):
        works = works_of(SOON, LATE)
        for thing in NO_NAMES:
            self.refused(works, errors.NoName, "tighten", thing, 1)
        self.refused(Works(), errors.NoName, "tighten", "a", 1)

    def test_no_number_of_anything(self):
        works = works_of(A, B, LATE)
        for thing in ANYTHING:
            if thing != 1 or thing is True:
                self.refused(works, errors.NoNumber, "tighten", "t", thing)
        for thing in (5, -1, 0, True, "1", (1,), [1], (1, 1), 10 ** 39):
            self.refused(works, errors.NoNumber, "tighten", "t", thing)
        self.refused(works, errors.NoNumber, "tighten", "b", 4)
        for by in (0, 1, True):
            self.refused(works, errors.NoNumber, "tighten", "a", by)

    def test_hung(self):
        works = works_of(A, B)
        works.hang((7, 2))
        self.assertEqual(self.refused(works, errors.Hung, "tighten", "b", 1).weight, (7, 2))
        works.hang((0, 1))
        works.tighten("b", 1)
        self.assertEqual(works.ropes(), (A, ("b", 2, 1, 5)))

    def test_the_one_told_first_goes_first(self):
        works = works_of(A, B)
        works.hang((1, 1))
        self.refused(works, errors.NoName, "tighten", "c", 1)
        self.refused(works, errors.NoName, "tighten", None, None)
        self.refused(works, errors.NoNumber, "tighten", "b", 4)
        self.refused(works, errors.NoNumber, "tighten", "a", 1)
        self.refused(works, errors.Hung, "tighten", "b", 3)

    def test_a_broken_rope(self):
        works = works_of(("a", 5, 1, 3))
        works.hang((4, 1))
        works.tighten("a", 2)
        self.assertEqual((works.ropes(), works.broken(), len(works)), ((("a", 3, 1, 3),), ("a",), 0))
        works.splice("a")
        self.assertEqual(works.ropes(), (("a", 3, 1, 3),))
        works.hang((1, 1))
        self.assertEqual(works.sinking(), (4, 1))


class OwnTests(WorksCase):
    def test_lists_that_were_told_are_the_askers_own(self):
        works = works_of(SOON, LATE)
        told = works.hang((8, 1))
        log = works.log()
        other = works.log()
        before = state(works)
        told.append(("t",))
        told[0] = ()
        log.append(((1, 1), ("t",)))
        log.reverse()
        self.assertEqual(other, [((8, 1), ("s",))])
        self.assertEqual(state(works), before)
        works.hang((51, 1))
        self.assertEqual(other, [((8, 1), ("s",))])
        self.assertEqual(works.log(), [((8, 1), ("s",)), ((51, 1), ("t",))])

    def test_a_list_of_no_waves_is_the_askers_own_too(self):
        works = works_of(A)
        works.hang((1, 1)).append("more")
        self.assertEqual(works.hang((1, 1)), [])
        Works().log().append("more")
        self.assertEqual(Works().log(), [])

    def test_kinds(self):
        works = works_of(*SIX)
        works.hang((31, 1))
        for told in (works.ropes(), works.broken(), works.load(), works.sinking()):
            self.assertIsInstance(told, tuple)
        self.assertIsInstance(works.log(), list)
        self.assertIsInstance(works.log()[0], tuple)
        self.assertIsInstance(works.log()[0][1], tuple)
        self.assertIs(type(works.fell()), int)

    def test_the_same_asked_again_is_answered_the_same(self):
        works = works_of(SOON, LATE)
        works.hang((8, 1))
        self.assertEqual(state(works), state(works))

    def test_nothing_handed_in_is_changed(self):
        works = works_of(A)
        for deed in ("put", "hang", "splice"):
            thing = [["a", 0, 1, 1], (1, [2])]
            self.assertRaises(errors.ToldError, getattr(works, deed), thing)
            self.assertEqual(thing, [["a", 0, 1, 1], (1, [2])])

    def test_by_their_names(self):
        works = Works()
        works.put(rope=B)
        works.tighten(name="b", by=1)
        self.assertEqual(works.hang(load=(6, 1)), [("b",)])
        works.splice(name="b")
        self.assertEqual(works.ropes(), (("b", 2, 1, 5),))

    def test_not_busy_between_calls_whatever_came_of_them(self):
        works = works_of(A, B)
        for deed, parts in (("put", (LATE,)), ("put", (None,)), ("put", (A,)), ("hang", ((9, 1),)), ("hang", (None,)),
                            ("put", (SOON,)), ("splice", ("a",)), ("splice", ("x",)), ("tighten", ("b", 1)),
                            ("tighten", ("b", 9)), ("hang", ((99, 1),)), ("splice", ("a",)), ("tighten", ("t", 1))):
            try:
                getattr(works, deed)(*parts)
            except errors.PullError:
                pass
            self.assertIs(works.busy, False)


class Model:
    """A works straight from the words of the document."""

    def __init__(self):
        self.strands = {}
        self.gone = set()
        self.weight = 0
        self.told = []
        self.falls = 0

    def bundle(self):
        return tuple((name, *self.strands[name]) for name in sorted(self.strands))

    def hung(self):
        return [(errors.Hung, pair(self.weight))] if self.weight > 0 else []

    def put(self, rope):
        due = [errors.Taken] if rope[0] in self.strands else []
        due += [errors.Full] if len(self.strands) == 6 else []
        due += self.hung()
        if due:
            return due[0]
        self.strands[rope[0]] = rope[1:]
        return None

    def splice(self, name):
        due = [errors.NoName] if name not in self.strands else []
        due += [(errors.Whole, name)] if name not in self.gone else []
        due += self.hung()
        if due:
            return due[0]
        self.gone.remove(name)
        return None

    def tighten(self, name, by):
        if name not in self.strands:
            return errors.NoName
        slack, stiff, strong = self.strands[name]
        due = [] if 1 <= by <= slack else [errors.NoNumber]
        due += self.hung()
        if due:
            return due[0]
        self.strands[name] = (slack - by, stiff, strong)
        return None

    def hang(self, load):
        load = worth(load)
        if load > 0 and not left_of(self.bundle(), self.gone):
            return errors.NoRopes
        waves = []
        before = set(self.gone)
        while weak := too_much(left_of(self.bundle(), self.gone), load):
            waves.append(tuple(weak))
            self.gone.update(weak)
        assert tuple(sorted(self.gone)) == behind(self.bundle(), before, load)
        if waves:
            self.told.append((pair(load), tuple(sorted(self.gone - before))))
        self.weight = load
        if load > 0 and not left_of(self.bundle(), self.gone):
            self.falls += 1
            self.weight = 0
        return waves

    def state(self):
        left = left_of(self.bundle(), self.gone)
        return (self.bundle(), tuple(sorted(self.gone)), pair(self.weight), pair(sink(left, self.weight)), self.told,
                self.falls, len(left), False)


def outcome(works, deed, parts):
    """What is told, or the class of the refusal, with its field where it has one."""
    try:
        return getattr(works, deed)(*parts)
    except errors.Hung as refusal:
        return (errors.Hung, refusal.weight)
    except errors.Whole as refusal:
        return (errors.Whole, refusal.name)
    except errors.PullError as refusal:
        return type(refusal)


def some_deed(chance):
    name = chance.choice(NAMES)
    deed = chance.choice(("put", "put", "hang", "hang", "rest", "splice", "splice", "tighten"))
    if deed == "put":
        return "put", ((name, chance.randint(0, 6), chance.randint(1, 5), chance.randint(1, 20)),)
    if deed == "hang":
        return "hang", (pair(worth((chance.randint(0, 60), chance.choice((1, 2, 3))))),)
    if deed == "rest":
        return "hang", ((0, 1),)
    if deed == "splice":
        return "splice", (name,)
    return "tighten", (name, chance.randint(0, 4))


class ManyDeedsTests(WorksCase):
    def test_as_the_words_say(self):
        chance = random.Random(71)
        kinds = {}
        for _ in range(40):
            works = Works()
            model = Model()
            for _ in range(60):
                deed, parts = some_deed(chance)
                before = state(works)
                told = outcome(works, deed, parts)
                expected = outcome(model, deed, parts)
                self.assertEqual(told, expected, (before, deed, parts))
                self.assertEqual(state(works), model.state(), (before, deed, parts))
                kind = told if isinstance(told, type) else told[0] if isinstance(told, tuple) else deed
                kinds[kind] = kinds.get(kind, 0) + 1
        for kind in ("put", "hang", "splice", "tighten", errors.Taken, errors.Full, errors.Hung, errors.NoRopes,
                     errors.NoName, errors.Whole, errors.NoNumber):
            self.assertGreater(kinds.get(kind, 0), 5, kind)


if __name__ == "__main__":
    unittest.main()
