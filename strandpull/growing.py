"""Growing loads: which loads break which ropes, and the greatest load that is borne."""

from strandpull.kinds import NOUGHT, fraction, is_more, rising
from strandpull.ropes import pulled_at


def table(bundle):
    """For each unlike end what the ropes pull there that last so far: a rising tuple of (sinking, load)."""
    ends = rising([end_of(rope) for rope in bundle])
    return tuple([(end, pulled_at(lasting_to(bundle, end), end)) for end in ends])


def greatest(bundle):
    """The greatest load that is borne, nothing broken at first, with how far it sinks the bar."""
    most = NOUGHT
    sunk = NOUGHT
    for end, load in table(bundle):
        # Of like loads the first one counts: the bar comes to rest there.
        if is_more(load, most):
            most = load
            sunk = end
    return (most, sunk)


def steps(bundle):
    """The loads above which ropes break, with the names of these: a list, loads rising."""
    tills = [lasting_till(bundle, rope) for rope in bundle]
    return [(load, breaking_at(bundle, tills, load)) for load in rising(tills)]


def end_of(rope):
    """How far a rope can be drawn without breaking: a fraction."""
    name, slack, stiff, strong = rope
    return fraction(slack * stiff + strong, stiff)


def lasting_to(ropes, sunk):
    """Those ropes whose ends are no less than the sinking: a list."""
    return [rope for rope in ropes if not is_more(sunk, end_of(rope))]


def lasting_till(left, rope):
    """The greatest load by which the rope is whole behind the waves, where these ropes are left at first."""
    # The rope is whole where the bar comes to rest no deeper than the rope's end, and it does
    # so just where, at some end no deeper than that one, the ropes that last so far can pull the load.
    deepest = end_of(rope)
    most = NOUGHT
    for end, load in table(left):
        if not is_more(end, deepest) and is_more(load, most):
            most = load
    return most


def breaking_at(bundle, tills, load):
    """The names of the ropes that are whole just till this load, rising: a tuple."""
    return tuple([rope[0] for rope, till in zip(bundle, tills) if till == load])
