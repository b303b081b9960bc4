"""Ropes: what a bundle and a load are, how far a load sinks the bar, how hard each rope is pulled."""

from strandpull.kinds import NOUGHT, fraction, is_fraction, is_name, is_whole, plus

MOST_SLACK = 1000
MOST_STIFF = 100
MOST_STRONG = 1000000
MOST_ROPES = 6


def is_bundle(thing):
    """Whether it is a rising tuple of 1 to 6 ropes with unlike names."""
    if not isinstance(thing, tuple) or not 1 <= len(thing) <= MOST_ROPES:
        return False
    if not all([is_rope(part) for part in thing]):
        return False
    # Ropes with unlike names rise just where their names do.
    names = [rope[0] for rope in thing]
    return all([name < behind for name, behind in zip(names, names[1:])])


def is_load(thing):
    """Whether it is a fraction."""
    return is_fraction(thing)


def sinking(bundle, broken, load):
    """How far the load sinks the bar: a fraction, or None where no rope is left to hold it."""
    return sunk_by(ropes_left(bundle, broken), load)


def pulls(bundle, broken, load):
    """How hard each rope that is left is pulled by the load: a list of (name, fraction), rising."""
    left = ropes_left(bundle, broken)
    sunk = sunk_by(left, load)
    return [(rope[0], pull_at(rope, sunk)) for rope in left]


def is_rope(thing):
    """Whether it is a tuple (name, slack, stiff, strong) within the bounds."""
    if not isinstance(thing, tuple) or len(thing) != 4:
        return False
    name, slack, stiff, strong = thing
    if not is_name(name) or not is_within(slack, 0, MOST_SLACK):
        return False
    return is_within(stiff, 1, MOST_STIFF) and is_within(strong, 1, MOST_STRONG)


def is_within(thing, least, most):
    """Whether it is a whole number from the least to the most."""
    return is_whole(thing) and least <= thing <= most


def ropes_left(bundle, broken):
    """The ropes of a bundle that are not broken, rising: a list."""
    return [rope for rope in bundle if rope[0] not in broken]


def sunk_by(left, load):
    """How far the load sinks a bar that hangs on these ropes, None where it falls."""
    top, bottom = load
    if top == 0:
        return NOUGHT
    # The ropes are drawn in the order of their slacks; stiffness times slack is
    # what a drawn rope would pull more if it had no slack at all.
    sunk = None
    stiff_drawn = 0
    lost_to_slack = 0
    for name, slack, stiff, strong in sorted(left, key=slack_of):
        if sunk is not None and not is_drawn(slack, sunk):
            return sunk
        stiff_drawn += stiff
        lost_to_slack += stiff * slack
        sunk = fraction(top + lost_to_slack * bottom, stiff_drawn * bottom)
    return sunk


def slack_of(rope):
    """The slack of a rope."""
    return rope[1]


def is_drawn(slack, sunk):
    """Whether a bar that has sunk so far draws a rope of this slack."""
    return sunk[0] > slack * sunk[1]


def pull_at(rope, sunk):
    """How hard a rope pulls where the bar has sunk so far: a fraction."""
    slack = rope[1]
    stiff = rope[2]
    if not is_drawn(slack, sunk):
        return NOUGHT
    top, bottom = sunk
    return fraction(stiff * (top - slack * bottom), bottom)


def pulled_at(ropes, sunk):
    """What these ropes pull together where the bar has sunk so far: a fraction."""
    together = NOUGHT
    for rope in ropes:
        together = plus(together, pull_at(rope, sunk))
    return together
