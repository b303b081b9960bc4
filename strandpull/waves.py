"""Waves: which ropes a load breaks, one wave behind another, and what is left to bear it."""

from strandpull.ropes import pull_at, ropes_left, sinking, sunk_by


def waves(bundle, broken, load):
    """The waves in which the load breaks ropes: a list of rising tuples of names."""
    told = []
    left = ropes_left(bundle, broken)
    wave = giving_way(left, load)
    while wave:
        told.append(wave)
        left = ropes_left(left, wave)
        wave = giving_way(left, load)
    return told


def broken_by(bundle, broken, load):
    """What is broken behind the waves, those broken before too: a rising tuple of names."""
    gone = list(broken)
    for wave in waves(bundle, broken, load):
        gone.extend(wave)
    return tuple(sorted(gone))


def bears(bundle, broken, load):
    """Whether a rope is left behind the waves, or the load is 0."""
    return load[0] == 0 or len(broken_by(bundle, broken, load)) < len(bundle)


def by_loads(bundle, loads):
    """For each of the loads, hung on in turn, what is broken behind it and how far the bar sinks."""
    told = []
    broken = ()
    for load in loads:
        broken = broken_by(bundle, broken, load)
        told.append((broken, sinking(bundle, broken, load)))
    return told


def sunk_behind(bundle, load):
    """How far the load sinks the bar behind its waves, nothing broken at first; None where it is not borne."""
    return sinking(bundle, broken_by(bundle, (), load), load)


def giving_way(left, load):
    """The names of those ropes that would pull more than their strength, rising: a tuple."""
    # No ropes, no sinking that they could be pulled at.
    if not left:
        return ()
    sunk = sunk_by(left, load)
    return tuple([rope[0] for rope in left if is_too_much(rope, pull_at(rope, sunk))])


def is_too_much(rope, pull):
    """Whether the pull is more than the rope's strength."""
    return pull[0] > rope[3] * pull[1]
