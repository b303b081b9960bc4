"""Chains of bundles, one below another, and whether two bundles are alike for all loads."""

from strandpull.growing import greatest, steps
from strandpull.kinds import NOUGHT, fraction, plus, rising
from strandpull.ropes import pulled_at, ropes_left
from strandpull.waves import sunk_behind


def chain_sinks(chain, load):
    """How far each lower bar sinks by the load, from above: a list, or None where some bundle falls."""
    told = []
    depth = NOUGHT
    for bundle in chain:
        sunk = sunk_behind(bundle, load)
        if sunk is None:
            return None
        depth = plus(depth, sunk)
        told.append(depth)
    return told


def weakest(chain):
    """The greatest load that all bundles bear, and the number of the first one that bears no more."""
    loads = [greatest(bundle)[0] for bundle in chain]
    least = rising(loads)[0]
    return (least, loads.index(least))


def parting(one, other):
    """A load by which the two bundles are unlike, or None where there is none."""
    # Behind each of these loads, up to the next one, both sinkings grow evenly: where
    # they agree at two loads there they agree at all. Above the last one both fall.
    loads = rising([NOUGHT, *bends(one), *bends(other)])
    for load in [*loads, *halfway(loads)]:
        if sunk_behind(one, load) != sunk_behind(other, load):
            return load
    return None


def bends(bundle):
    """All loads at which the sinking leaps or begins to grow at another pace, and maybe more: a list."""
    told = []
    left = ropes_left(bundle, ())
    for load, names in steps(bundle):
        told.append(load)
        told.extend([pulled_at(left, (rope[1], 1)) for rope in left])
        left = ropes_left(left, names)
    return told


def halfway(loads):
    """The loads halfway between each of the loads and the next one: a list."""
    return [half(plus(load, behind)) for load, behind in zip(loads, loads[1:])]


def half(worth):
    """Half of a fraction."""
    return fraction(worth[0], 2 * worth[1])
