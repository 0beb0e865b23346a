"""What draws tell, worked out of pairs (number, weight) that are known to be in form.

The weights of a draw are its chances; some of these functions also take pairs
with other sums of weights.
"""

from placeworths.exact import (
    ONE, ZERO, divided, greater, in_order, is_below, lesser, minus, multiplied, negative, plus, total,
)


def mean_of(pairs):
    """The sum of all numbers, each times its weight."""
    return total([multiplied(number, weight) for number, weight in pairs])


def capped_mean(pairs, cap):
    """The mean of the lesser one of the number and the cap."""
    return mean_of([(lesser(number, cap), weight) for number, weight in pairs])


def excess_mean(pairs, bar):
    """The mean of what the number is above the bar."""
    return mean_of([(minus(number, bar), weight) for number, weight in pairs if is_below(bar, number)])


def raised_mean(pairs, floor):
    """The mean of the greater one of the number and the floor."""
    return mean_of([(greater(number, floor), weight) for number, weight in pairs])


def weight_above(pairs, bar):
    """The weight of all numbers above the bar."""
    return total([weight for number, weight in pairs if is_below(bar, number)])


def gathered(pairs):
    """The tuple of the pairs in the order of their numbers, alike ones put together, without weights of 0."""
    weights = {}
    for number, weight in pairs:
        weights[number] = plus(weights.get(number, ZERO), weight)
    return tuple([(number, weights[number]) for number in in_order(list(weights)) if weights[number] != ZERO])


def capped_pairs(pairs, cap):
    """The draw of the lesser one of the number and the cap."""
    return gathered([(lesser(number, cap), weight) for number, weight in pairs])


def weights_up_to(pairs, numbers):
    """For each one of ascending numbers the weight of what is not above it."""
    told = []
    reached = ZERO
    at = 0
    for number in numbers:
        while at < len(pairs) and not is_below(number, pairs[at][0]):
            reached = plus(reached, pairs[at][1])
            at += 1
        told.append(reached)
    return told


def greatest_pairs(draws):
    """The draw of the greatest one of all numbers of a list of draws, taken apart."""
    numbers = in_order([number for draw in draws for number, _ in draw])
    # That the greatest one is not above a number is that none is, and draws taken apart multiply.
    reached = [ONE for _ in numbers]
    for draw in draws:
        reached = [multiplied(chance, one) for chance, one in zip(reached, weights_up_to(draw, numbers))]
    behind = [ZERO, *reached]
    pairs = [(number, minus(high, low)) for number, high, low in zip(numbers, reached, behind)]
    return tuple([pair for pair in pairs if pair[1] != ZERO])


def greatest_mean(draws, floor):
    """The mean of the greatest one of all numbers of a list of draws and of the floor."""
    return mean_of(greatest_pairs([*draws, ((floor, ONE),)]))


def level(pairs, height, slope):
    """The least number z over which the excess of the pairs is height + slope * z, or less.

    The slope is 0 or 1; for the greatest number of the pairs, as z, this sum is from 0 on.
    """
    steep = slope
    rest = negative(height)
    for at in range(len(pairs) - 1, -1, -1):
        number, weight = pairs[at]
        steep = plus(steep, weight)
        rest = plus(rest, multiplied(number, weight))
        # Down to the next lesser number the excess is a straight line; this is where it would meet the sum.
        meeting = divided(rest, steep)
        if at == 0 or is_below(pairs[at - 1][0], meeting):
            break
    return meeting
