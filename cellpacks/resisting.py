"""What groups and packs resist.

A fraction is a tuple of two numbers without a common divisor, the lower one above 0.
"""


def common_divisor(one, other):
    while other != 0:
        rest = one % other
        one = other
        other = rest
    return one


def lowest_terms(upper, lower):
    divisor = common_divisor(upper, lower)
    return (upper // divisor, lower // divisor)


def add_fractions(one, other):
    return lowest_terms(one[0] * other[1] + other[0] * one[1], one[1] * other[1])


def side_by_side(resists):
    parts = (0, 1)
    for resisted in resists:
        parts = add_fractions(parts, (1, resisted))
    # One divided by a fraction is the fraction upside down; a group has a cell, so neither number is 0.
    return (parts[1], parts[0])


def behind_one_another(resists, size):
    whole = (0, 1)
    for first in range(0, len(resists), size):
        whole = add_fractions(whole, side_by_side(resists[first:first + size]))
    return whole
