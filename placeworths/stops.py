"""Stops: numbers that are seen once and must be taken or passed."""

from placeworths.checks import check_index, check_number, check_price, check_row
from placeworths.errors import InvalidNumber, InvalidRow, TooMany
from placeworths.exact import ONE, ZERO, highest, is_below, is_integer, minus, plus
from placeworths.paid import ordered_worth
from placeworths.weights import excess_mean, gathered, greatest_mean, level, mean_of, raised_mean

MOST_ORDERED = 5


def worths_from(row, rest):
    """The worths from all indexes, the rest as the last one."""
    check_row(row)
    check_number(rest)
    return tuple(told_worths(row, rest))


def bars(row, rest):
    """The bars of all draws: the worths from the indexes behind them."""
    check_row(row)
    check_number(rest)
    return tuple(told_worths(row, rest)[1:])


def should_take(row, rest, index, number):
    """Whether the number is at least the bar of the draw with this index."""
    check_row(row)
    check_number(rest)
    check_index(index, len(row))
    check_number(number)
    return not is_below(number, told_worths(row, rest)[index + 1])


def bar_worth(row, rest, bar):
    """The mean of what is had if the first number that is at least the bar is taken."""
    check_row(row)
    check_number(rest)
    check_number(bar)
    worth = rest
    for draw in row[::-1]:
        worth = mean_of([(worth if is_below(number, bar) else number, chance) for number, chance in draw])
    return worth


def prophet(row, rest):
    """The mean of the greatest one of all numbers and the rest."""
    check_row(row)
    check_number(rest)
    return greatest_mean(row, rest)


def half_bar(row):
    """The number that is the sum of all excesses over it."""
    check_row(row)
    pairs = gathered([pair for draw in row for pair in draw])
    if pairs[0][0][0] < 0:
        raise InvalidRow(row)
    return level(pairs, ZERO, ONE)


def best_orders(row, rest):
    """The greatest worth that the draws have in any order, and all orders with it."""
    check_row(row)
    check_number(rest)
    if len(row) > MOST_ORDERED:
        raise TooMany(MOST_ORDERED)
    worths = {(): rest}
    for _ in row:
        worths = worths_one_ahead(row, worths)
    best = highest(list(worths.values()))
    return (best, tuple(sorted([order for order in worths if worths[order] == best])))


def recall_worth(row, rest, price):
    """The greatest mean if each draw is seen for the price, and the greatest number had may be taken at any time."""
    check_row(row)
    check_number(rest)
    check_price(price)
    return ordered_worth([(draw, price) for draw in row], rest)


def picks(row, times):
    """The greatest mean of the sum of what is taken, if up to so many numbers may be taken."""
    check_row(row)
    if not is_integer(times) or not 1 <= times <= len(row):
        raise InvalidNumber(times)
    # At the index k of worths stands what can be had behind with k numbers still to be taken.
    worths = [ZERO for _ in range(times + 1)]
    for draw in row[::-1]:
        gains = [excess_mean(draw, minus(more, less)) for less, more in zip(worths, worths[1:])]
        worths = [ZERO, *[plus(worth, gain) for worth, gain in zip(worths[1:], gains)]]
    return worths[times]


def told_worths(row, rest):
    """The list of the worths from all indexes, the rest as the last one."""
    worths = [rest]
    for draw in row[::-1]:
        worths.append(raised_mean(draw, worths[-1]))
    return worths[::-1]


def worths_one_ahead(row, worths):
    """The worths of all orders that come of those with told worths by one more draw ahead of them."""
    return {
        (index, *order): raised_mean(row[index], worths[order])
        for order in worths for index in range(len(row)) if index not in order
    }
