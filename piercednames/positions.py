"""Positions of rows: fractions, as pairs (over, under) in lowest terms."""

from math import gcd, lcm


def lowest(over, under):
    """The pair of a fraction in lowest terms."""
    common = gcd(over, under)
    return (over // common, under // common)


def middle(one, other):
    """The position in the middle of two positions."""
    over, under = one
    other_over, other_under = other
    return lowest(over * other_under + other_over * under, 2 * under * other_under)


def is_below(one, other):
    """Whether the first fraction is less than the second one."""
    over, under = one
    other_over, other_under = other
    return over * other_under < other_over * under


def position_behind(one, other):
    """The position between one, None at the front, and other, None at the end; None without room."""
    if one is None and other is None:
        return (1, 1)
    if one is None:
        over, under = other
        return lowest(over, 2 * under)
    if other is None:
        over, under = one
        return lowest(over + under, under)
    if one == other:
        return None
    return middle(one, other)


def ordered(pairs):
    """The list of the ids of pairs (position, id), by the fractions, equal ones by their ids."""
    common = 1
    for (_, under), _ in pairs:
        common = lcm(common, under)
    # Over one common denominator the fractions compare as integers do, without loss.
    scaled = [(over * (common // under), thing) for (over, under), thing in pairs]
    return [thing for _, thing in sorted(scaled)]
