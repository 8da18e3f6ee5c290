"""Fractions: pairs of integers in lowest terms, the second one greater than 0."""

from math import gcd, lcm

ZERO = (0, 1)
ONE = (1, 1)


def fraction(top, bottom):
    """Returns the fraction top / bottom; bottom is not 0."""
    shared = gcd(top, bottom)
    if bottom < 0:
        shared = -shared
    return (top // shared, bottom // shared)


def plus(one, two):
    """Returns the sum of two fractions."""
    return fraction(one[0] * two[1] + two[0] * one[1], one[1] * two[1])


def minus(one, two):
    """Returns what is left of the first fraction without the second one."""
    return fraction(one[0] * two[1] - two[0] * one[1], one[1] * two[1])


def times(one, two):
    """Returns the product of two fractions."""
    return fraction(one[0] * two[0], one[1] * two[1])


def over(one, two):
    """Returns the first fraction divided by the second one, which is not zero."""
    return fraction(one[0] * two[1], one[1] * two[0])


def is_less(one, two):
    """Returns True if the first fraction is less than the second one."""
    return one[0] * two[1] < two[0] * one[1]


def total(values):
    """Returns the sum of fractions; that of none is zero."""
    reached = ZERO
    for value in values:
        reached = plus(reached, value)
    return reached


def whole_part(value):
    """Returns the greatest integer that is not greater than the fraction."""
    return value[0] // value[1]


def _common_bottom(values):
    """Returns the least integer that is a multiple of the second integers of all fractions."""
    bottom = 1
    for value in values:
        bottom = lcm(bottom, value[1])
    return bottom


def _by_remainder(shares):
    """Returns the keys in the order in which they get the coins that are left over."""
    # With one bottom for all shares, their remainders compare as integers.
    bottom = _common_bottom(list(shares.values()))
    ranked = []
    for key in shares:
        top = shares[key][0] * (bottom // shares[key][1])
        # The negative remainder puts the greatest one first, while equal ones keep the lesser key first.
        ranked.append((-(top % bottom), key))
    return [key for _, key in sorted(ranked)]


def in_coins(shares):
    """Returns the dict from the keys, ascending, to whole coins with the same sum as the shares."""
    coins = {key: whole_part(shares[key]) for key in sorted(shares)}
    left = whole_part(total(list(shares.values()))) - sum(coins.values())
    for key in _by_remainder(shares)[:left]:
        coins[key] = coins[key] + 1
    return coins
