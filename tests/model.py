"""A second way to the answers, straight from the words of the document, and bundles to try it on."""

import random
from fractions import Fraction
from itertools import combinations

NAMES = ("a", "bb", "c", "dusk", "e", "f", "longname")
# Less than the gap between any two loads, or sinkings, at which something changes.
HAIR = Fraction(1, 10 ** 30)


def nested(inner, depth, wrap):
    for _ in range(depth):
        inner = wrap([inner])
    return inner


# Nothing here is a rope, a bundle or a load.
ANYTHING = (
    None, True, False, 0, 1, -1, 10 ** 40, "", "a", "ab", "abcd", "a b\nc~", " " * 1000, [], (), [[]], ((),), ([],),
    [()], (None,), (None, None), (True, False), (1,), (1, 2, 3), (1, 2, 3, 4), ("a",), ("a", "b"), ("a", "b", "c", "d"),
    ["a", 0, 1, 1], [["a", 0, 1, 1]], (0,) * 300, [0] * 300, ((0, 1),), ((0, 1), (0, 1)), ([0], [1]), ((0,), (1,)),
    nested((), 20, tuple), nested([], 20, list), nested(("a", 3, 2, 10), 18, tuple), nested((1, 2), 19, list), 1.5,
    (1.0, 2.0),
)


def pair(worth):
    worth = Fraction(worth)
    return (worth.numerator, worth.denominator)


def worth(pair_told):
    return Fraction(pair_told[0], pair_told[1])


def left_of(bundle, broken):
    return [rope for rope in bundle if rope[0] not in broken]


def pull(rope, sunk):
    return max(Fraction(0), rope[2] * (sunk - rope[1]))


def sink(left, load):
    """The sinking, found by trying every choice of ropes that might be the drawn ones."""
    if load == 0:
        return Fraction(0)
    for many in range(1, len(left) + 1):
        for drawn in combinations(left, many):
            stiff = sum(rope[2] for rope in drawn)
            sunk = (load + sum(rope[2] * rope[1] for rope in drawn)) / stiff
            if sum(pull(rope, sunk) for rope in left) == load:
                return sunk
    return None


def too_much(left, load):
    """The names of the ropes that would pull more than their strength."""
    if not left:
        return []
    sunk = sink(left, load)
    return [rope[0] for rope in left if pull(rope, sunk) > rope[3]]


def ends_one_by_one(bundle, broken, load):
    """Every set of broken ropes that some order of giving way, one by one, can end in."""
    ends = set()
    seen = set()
    waiting = [frozenset(broken)]
    while waiting:
        gone = waiting.pop()
        if gone in seen:
            continue
        seen.add(gone)
        weak = too_much(left_of(bundle, gone), load)
        if not weak:
            ends.add(tuple(sorted(gone)))
        waiting.extend(gone | {name} for name in weak)
    return ends


def behind(bundle, broken, load):
    """What is broken behind the waves, found by letting one rope give way at a time."""
    gone = set(broken)
    weak = too_much(left_of(bundle, gone), load)
    while weak:
        gone.add(weak[0])
        weak = too_much(left_of(bundle, gone), load)
    return tuple(sorted(gone))


def sunk_behind(bundle, load):
    """How far a load sinks the bar behind its waves, nothing broken at first; None where it falls."""
    return sink(left_of(bundle, behind(bundle, (), load)), load)


def is_borne(bundle, load):
    return load == 0 or len(behind(bundle, (), load)) < len(bundle)


def turning_loads(bundle):
    """Every load that some of the ropes might pull together at a slack or an end of one of them, and more."""
    loads = {Fraction(0)}
    for many in range(1, len(bundle) + 1):
        for some in combinations(bundle, many):
            for _, slack, stiff, strong in some:
                for sunk in (Fraction(slack), slack + Fraction(strong, stiff)):
                    loads.add(sum(pull(rope, sunk) for rope in some))
    return loads


def bundles(seed, many, most=6):
    """Bundles of at most so many ropes, the same ones each time."""
    chance = random.Random(seed)
    told = []
    while len(told) < many:
        bundle = some_bundle(chance)
        if len(bundle) <= most:
            told.append(bundle)
    return told


def cases(seed, many):
    """Bundles with broken ropes and a load, the same ones each time."""
    chance = random.Random(seed)
    for _ in range(many):
        bundle = some_bundle(chance)
        names = [rope[0] for rope in bundle]
        broken = tuple(sorted(chance.sample(names, chance.randint(0, len(names)))))
        yield bundle, broken, some_load(chance, bundle)


def some_bundle(chance):
    names = sorted(chance.sample(NAMES, chance.randint(1, 6)))
    return tuple((name, chance.randint(0, 12), chance.randint(1, 9), chance.randint(1, 40)) for name in names)


def some_load(chance, bundle):
    bound = sum(rope[3] for rope in bundle)
    return pair(Fraction(chance.randint(0, 6 * bound), chance.choice((4, 5, 6, 7, 9, 12))))
