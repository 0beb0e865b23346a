"""Exact numbers: fractions are pairs (n, d) in lowest terms, d from 1 on."""

from math import gcd, lcm

ZERO = (0, 1)
ONE = (1, 1)


def is_integer(value):
    """Whether the value is an integer; True and False are none."""
    return isinstance(value, int) and not isinstance(value, bool)


def is_fraction(value):
    """Whether the value is a pair of integers in lowest terms, the lower one from 1 on."""
    if not isinstance(value, tuple) or len(value) != 2:
        return False
    top, bottom = value
    if not is_integer(top) or not is_integer(bottom):
        return False
    return bottom >= 1 and gcd(top, bottom) == 1


def reduced(top, bottom):
    """The fraction that is top by bottom, which is not 0."""
    common = gcd(top, bottom)
    if bottom < 0:
        common = -common
    return (top // common, bottom // common)


def plus(number, other):
    """The sum of two fractions."""
    return reduced(number[0] * other[1] + other[0] * number[1], number[1] * other[1])


def minus(number, other):
    """The first fraction less the second one."""
    return reduced(number[0] * other[1] - other[0] * number[1], number[1] * other[1])


def multiplied(number, other):
    """The product of two fractions."""
    return reduced(number[0] * other[0], number[1] * other[1])


def divided(number, other):
    """The first fraction by the second one, which is not 0."""
    return reduced(number[0] * other[1], number[1] * other[0])


def negative(number):
    """The fraction with the other sign."""
    return (-number[0], number[1])


def is_below(number, other):
    """Whether the first fraction is less than the second one."""
    return number[0] * other[1] < other[0] * number[1]


def lesser(number, other):
    """The lesser one of two fractions."""
    return number if is_below(number, other) else other


def greater(number, other):
    """The greater one of two fractions."""
    return other if is_below(number, other) else number


def highest(numbers):
    """The greatest one of a list of fractions that is not empty."""
    result = numbers[0]
    for number in numbers:
        result = greater(result, number)
    return result


def total(numbers):
    """The sum of a list of fractions."""
    result = ZERO
    for number in numbers:
        result = plus(result, number)
    return result


def in_order(numbers):
    """The list of the unlike ones of a list of fractions, ascending as numbers."""
    bottom = 1
    for number in numbers:
        bottom = lcm(bottom, number[1])
    unlike = list({one: True for one in numbers})
    return sorted(unlike, key=lambda pair: pair[0] * (bottom // pair[1]))


def are_ascending(numbers):
    """Whether each of a list of fractions is greater than the one ahead of it."""
    return all([is_below(low, high) for low, high in zip(numbers, numbers[1:])])


def are_shares(numbers):
    """Whether all of a list of fractions are above 0 and together 1."""
    return all([number[0] > 0 for number in numbers]) and total(numbers) == ONE
