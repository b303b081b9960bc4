"""Ropes for one another: how long one lasts without others, an unseen slack, the fewest to be made stronger."""

from strandpull.growing import lasting_till
from strandpull.kinds import NOUGHT, fraction, is_more, minus
from strandpull.ropes import pull_at, pulled_at, ropes_left
from strandpull.waves import bears, is_too_much


def whole_till(bundle, broken, name):
    """The greatest load by which the rope is still whole, others broken at first: a fraction."""
    return lasting_till(ropes_left(bundle, broken), rope_called(bundle, name))


def guards(bundle):
    """All pairs (one, other) where the other breaks by a lesser load without the one: a list, rising."""
    names = [rope[0] for rope in bundle]
    return [(one, other) for one in names for other in names if is_guard(bundle, one, other)]


def unseen(bundle, name, load, sunk):
    """The slacks of one rope by which the load sinks the bar so far: (least, greatest), or None."""
    if load == NOUGHT or sunk == NOUGHT:
        # No load but nought leaves the bar where it was, and nought does by whatever slack.
        return (NOUGHT, None) if load == sunk else None
    others = ropes_left(bundle, (name,))
    if any([is_too_much(rope, pull_at(rope, sunk)) for rope in others]):
        return None
    pulled = pulled_at(others, sunk)
    if is_more(pulled, load):
        return None
    if pulled == load:
        return (sunk, None)
    return slacks_pulling(rope_called(bundle, name), minus(load, pulled), sunk)


def fewest_doubled(bundle, load):
    """The fewest ropes that, given twice their strength, let the bundle bear the load: a tuple, or None."""
    names = [rope[0] for rope in bundle]
    for many in range(len(names) + 1):
        for chosen in choices(names, many):
            if bears(with_doubled(bundle, chosen), (), load):
                return chosen
    return None


def rope_called(bundle, name):
    """The rope of that name."""
    return [rope for rope in bundle if rope[0] == name][0]


def is_guard(bundle, one, other):
    """Whether the other rope, not the same one, breaks by a lesser load where the one is broken at first."""
    if one == other:
        return False
    return is_more(whole_till(bundle, (), other), whole_till(bundle, (one,), other))


def slacks_pulling(rope, pull, sunk):
    """The one slack, as least and greatest, by which the rope pulls so much more than nought, or None."""
    if is_too_much(rope, pull):
        return None
    drawn = fraction(pull[0], pull[1] * rope[2])
    if is_more(drawn, sunk):
        return None
    slack = minus(sunk, drawn)
    return (slack, slack)


def choices(names, many):
    """All choices of so many of the rising names: a list of rising tuples, itself rising."""
    if many == 0:
        return [()]
    told = []
    for at, name in enumerate(names):
        told.extend([(name, *more) for more in choices(names[at + 1:], many - 1)])
    return told


def with_doubled(bundle, chosen):
    """The bundle with twice the strength for the chosen names: a tuple."""
    return tuple([doubled(rope) if rope[0] in chosen else rope for rope in bundle])


def doubled(rope):
    """The rope with twice its strength."""
    name, slack, stiff, strong = rope
    return (name, slack, stiff, 2 * strong)
