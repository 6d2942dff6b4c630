"""Fractions: tuples (n, d) in lowest terms, d at least 1."""


def is_number(thing):
    """Whether a thing is a whole number; True and False are none."""
    return isinstance(thing, int) and not isinstance(thing, bool)


def common_divisor(n, d):
    """The greatest common divisor of two numbers, never below 0."""
    while d != 0:
        n, d = d, n % d
    return abs(n)


def is_fraction(thing):
    """Whether a thing is a fraction."""
    if not isinstance(thing, tuple) or len(thing) != 2:
        return False
    n, d = thing
    if not is_number(n) or not is_number(d):
        return False
    return d >= 1 and common_divisor(n, d) == 1


def is_from_nought(thing):
    """Whether a thing is a fraction from 0 on."""
    return is_fraction(thing) and thing[0] >= 0


def is_above_nought(thing):
    """Whether a thing is a fraction above 0."""
    return is_fraction(thing) and thing[0] > 0


def fraction(n, d):
    """n / d as a fraction; d is not 0."""
    divisor = common_divisor(n, d)
    if d < 0:
        divisor = -divisor
    return (n // divisor, d // divisor)


def added(one, other):
    """One and other together."""
    return fraction(one[0] * other[1] + other[0] * one[1], one[1] * other[1])


def taken(one, other):
    """One less other."""
    return fraction(one[0] * other[1] - other[0] * one[1], one[1] * other[1])


def times(one, other):
    """One times other."""
    return fraction(one[0] * other[0], one[1] * other[1])


def over(one, other):
    """One over other; other is not 0."""
    return fraction(one[0] * other[1], one[1] * other[0])


def compared(one, other):
    """-1, 0 or 1, as one is less than other, alike, or greater."""
    left = one[0] * other[1]
    right = other[0] * one[1]
    if left < right:
        return -1
    if left > right:
        return 1
    return 0


def sum_of(parts):
    """All fractions of a list together, (0, 1) of none."""
    total = (0, 1)
    for part in parts:
        total = added(total, part)
    return total


def greatest(parts):
    """The greatest of a list of one or more fractions."""
    best = parts[0]
    for part in parts:
        if compared(part, best) > 0:
            best = part
    return best


def least(parts):
    """The least of a list of one or more fractions."""
    best = parts[0]
    for part in parts:
        if compared(part, best) < 0:
            best = part
    return best


def from_nought(part):
    """A fraction, or 0 where it is below."""
    return greatest([(0, 1), part])
