"""The kinds of values that everything else is made of: whole numbers, names, fractions."""

MOST_LETTERS = 8
NOUGHT = (0, 1)


def is_whole(thing):
    """Whether it is a whole number."""
    # True and False are ints to Python, but no whole numbers here.
    return isinstance(thing, int) and not isinstance(thing, bool)


def is_name(thing):
    """Whether it is a name."""
    if not isinstance(thing, str) or not 1 <= len(thing) <= MOST_LETTERS:
        return False
    # Python's own test of small letters would let letters of other alphabets through.
    return all(["a" <= letter <= "z" for letter in thing])


def is_fraction(thing):
    """Whether it is a fraction: (top, bottom) in lowest terms, from nought on."""
    if not isinstance(thing, tuple) or len(thing) != 2:
        return False
    top, bottom = thing
    if not is_whole(top) or not is_whole(bottom):
        return False
    return top >= 0 and bottom >= 1 and common_divisor(top, bottom) == 1


def common_divisor(one, other):
    """The greatest common divisor of two whole numbers from 0 on."""
    while other > 0:
        one, other = other, one % other
    return one


def fraction(top, bottom):
    """The fraction of that worth; top from 0 on, bottom from 1 on."""
    divisor = common_divisor(top, bottom)
    return (top // divisor, bottom // divisor)


def is_more(one, other):
    """Whether one fraction is worth more than another one."""
    return one[0] * other[1] > other[0] * one[1]


def plus(one, other):
    """What two fractions are worth together: a fraction."""
    return fraction(one[0] * other[1] + other[0] * one[1], one[1] * other[1])


def minus(one, other):
    """By how much one fraction is worth more than another one, that is no greater: a fraction."""
    return fraction(one[0] * other[1] - other[0] * one[1], one[1] * other[1])


def rising(fractions):
    """The fractions by what they are worth, none twice: a list."""
    # Over one common bottom they are in order just as their tops are.
    common = 1
    for top, bottom in fractions:
        common = common // common_divisor(common, bottom) * bottom
    tops = sorted({top * (common // bottom) for top, bottom in fractions})
    return [fraction(top, common) for top in tops]
