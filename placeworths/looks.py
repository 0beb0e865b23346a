"""Looks: boxes that are opened at a price, and the best order to open them."""

from placeworths.checks import check_box, check_company, check_index, check_number
from placeworths.errors import InvalidOrder
from placeworths.exact import ONE, ZERO, in_order, is_below, is_integer, minus, multiplied, total
from placeworths.orders import bold, bold_at
from placeworths.paid import ordered_worth
from placeworths.weights import capped_pairs, greatest_mean, level


def strike(box):
    """The least number over which the excess of the box's draw is its price; its greatest number for the price 0."""
    check_box(box)
    return strike_of(box)


def capped_draw(box):
    """The draw of the lesser one of the box's number and its strike."""
    check_box(box)
    return capped_of(box)


def company_worth(company, floor):
    """The greatest mean of what one has less what was paid, over all ways to open boxes and to end."""
    check_company(company)
    check_number(floor)
    return worth_of(company, floor)


def best_order(company):
    """The indexes of the boxes by falling strikes, of equal strikes the lesser index first."""
    check_company(company)
    return tuple(falling_order([strike_of(box) for box in company]))


def worth_in(company, order, floor):
    """The greatest mean if the boxes are opened in this order until one ends."""
    check_company(company)
    if not is_order(order, len(company)):
        raise InvalidOrder(order)
    check_number(floor)
    return ordered_worth([company[index] for index in order], floor)


def box_gain(company, floor, index):
    """The company worth less that of the company without the box with this index."""
    check_company(company)
    check_number(floor)
    check_index(index, len(company))
    others = [*company[:index], *company[index + 1:]]
    return minus(worth_of(company, floor), worth_of(others, floor))


def opened_chance(company, floor, index):
    """The chance that the box with this index is opened, if boxes are opened in the best order."""
    check_company(company)
    check_number(floor)
    check_index(index, len(company))
    return chances_opened(company, floor)[index]


def paid_mean(company, floor):
    """The mean of what is paid, if boxes are opened in the best order."""
    check_company(company)
    check_number(floor)
    return total([multiplied(box[1], chance) for box, chance in zip(company, chances_opened(company, floor))])


def better_box(box, other):
    """Whether the box is in each company, at each floor, at least as good as the other one."""
    check_box(box)
    check_box(other)
    return bold(capped_of(box), capped_of(other))


def floor_against(box, other):
    """A floor at which the box alone is worth less than the other one alone, None if there is none."""
    check_box(box)
    check_box(other)
    return bold_at(capped_of(box), capped_of(other))


def strike_of(box):
    """The strike of what is known to be a box."""
    draw, price = box
    return level(draw, price, ZERO)


def capped_of(box):
    """The draw of what is known to be a box, capped at its strike."""
    return capped_pairs(box[0], strike_of(box))


def worth_of(boxes, floor):
    """The mean of the greatest one of the floor and of all numbers, each capped at its box's strike."""
    return greatest_mean([capped_of(box) for box in boxes], floor)


def falling_order(strikes):
    """The list of the indexes by falling strikes, of equal strikes the lesser index first."""
    falling = in_order(strikes)[::-1]
    return [index for height in falling for index, one in enumerate(strikes) if one == height]


def chances_opened(company, floor):
    """The list of the chances of all boxes to be opened, if boxes are opened in the best order."""
    strikes = [strike_of(box) for box in company]
    chances = [ZERO for _ in company]
    ahead = []
    for index in falling_order(strikes):
        # Strikes fall: so what lets this box be opened has let those ahead be opened, too.
        if is_below(floor, strikes[index]):
            chances[index] = chance_below(ahead, strikes[index])
        ahead.append(company[index][0])
    return chances


def chance_below(draws, height):
    """The chance that what comes of each one of the draws is below this height."""
    chance = ONE
    for draw in draws:
        chance = multiplied(chance, total([part for number, part in draw if is_below(number, height)]))
    return chance


def is_order(value, count):
    """Whether the value is a tuple of all indexes of so many things, each once."""
    if not isinstance(value, tuple) or not all([is_integer(index) for index in value]):
        return False
    return sorted(value) == list(range(count))
