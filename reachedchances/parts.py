"""Fractions: each a tuple of its upper and its lower number, with nothing in common, the lower one 1 or more."""

ZERO = (0, 1)
ONE = (1, 1)


def greatest_common(first, second):
    """The greatest number that divides both; the second is 1 or more."""
    while second != 0:
        rest = first % second
        first = second
        second = rest
    return first


def reduced(upper, lower):
    """The fraction upper by lower; lower is 1 or more."""
    common = greatest_common(upper, lower)
    return (upper // common, lower // common)


def plus(left, right):
    """Both fractions together."""
    return reduced(left[0] * right[1] + right[0] * left[1], left[1] * right[1])


def minus(left, right):
    """The left fraction less the right one."""
    return reduced(left[0] * right[1] - right[0] * left[1], left[1] * right[1])


def product(left, right):
    """The left fraction times the right one."""
    return reduced(left[0] * right[0], left[1] * right[1])


def quotient(left, right):
    """The left fraction by the right one, which is above 0."""
    return reduced(left[0] * right[1], left[1] * right[0])


def times(part, many):
    """A fraction taken so many times."""
    return reduced(part[0] * many, part[1])


def divided(part, many):
    """A fraction divided by a whole number, which is 1 or more."""
    return reduced(part[0], part[1] * many)


def size(part):
    """How far the fraction is from 0."""
    return (abs(part[0]), part[1])


def is_less(left, right):
    """Whether the left fraction is less than the right one."""
    return left[0] * right[1] < right[0] * left[1]


def lesser(left, right):
    """The lesser of both fractions."""
    return right if is_less(right, left) else left
