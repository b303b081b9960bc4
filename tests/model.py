"""A second way to the answers, straight from the words of the document, and bundles to try it on."""

import random
from fractions import Fraction
from itertools import combinations

NAMES = ("a", "bb", "c", "dusk", "e", "f", "longname")


def pair(worth):
    worth = Fraction(worth)
    return (worth.numerator, worth.denominator)


def worth(pair_told):
    return Fraction(pair_told[0], pair_told[1])


def left_of(bundle, broken):
    return [rope for rope in bundle if rope[0] not in broken]


def pull(rope, sunk):
    return max(Fraction(0), rope[2] * (sunk - rope[1]))


def sink(left, load):
    """The sinking, found by trying every choice of ropes that might be the drawn ones."""
    if load == 0:
        return Fraction(0)
    for many in range(1, len(left) + 1):
        for drawn in combinations(left, many):
            stiff = sum(rope[2] for rope in drawn)
            sunk = (load + sum(rope[2] * rope[1] for rope in drawn)) / stiff
            if sum(pull(rope, sunk) for rope in left) == load:
                return sunk
    return None


def too_much(left, load):
    """The names of the ropes that would pull more than their strength."""
    if not left:
        return []
    sunk = sink(left, load)
    return [rope[0] for rope in left if pull(rope, sunk) > rope[3]]


def ends_one_by_one(bundle, broken, load):
    """Every set of broken ropes that some order of giving way, one by one, can end in."""
    ends = set()
    seen = set()
    waiting = [frozenset(broken)]
    while waiting:
        gone = waiting.pop()
        if gone in seen:
            continue
        seen.add(gone)
        weak = too_much(left_of(bundle, gone), load)
        if not weak:
            ends.add(tuple(sorted(gone)))
        waiting.extend(gone | {name} for name in weak)
    return ends


def cases(seed, many):
    """Bundles with broken ropes and a load, the same ones each time."""
    chance = random.Random(seed)
    for _ in range(many):
        bundle = some_bundle(chance)
        names = [rope[0] for rope in bundle]
        broken = tuple(sorted(chance.sample(names, chance.randint(0, len(names)))))
        yield bundle, broken, some_load(chance, bundle)


def some_bundle(chance):
    names = sorted(chance.sample(NAMES, chance.randint(1, 6)))
    return tuple((name, chance.randint(0, 12), chance.randint(1, 9), chance.randint(1, 40)) for name in names)


def some_load(chance, bundle):
    bound = sum(rope[3] for rope in bundle)
    return pair(Fraction(chance.randint(0, 6 * bound), chance.choice((4, 5, 6, 7, 9, 12))))
