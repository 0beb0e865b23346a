"""Orders of draws for all wishes of a kind, and the transfers that show them."""

from placeworths.checks import check_draw
from placeworths.exact import in_order, is_below, negative
from placeworths.transfers import lift_triples, spread_triples
from placeworths.weights import capped_mean, excess_mean, weight_above


def never_less(draw, other):
    """Whether the draw's chance to be above a number is, for each number, at least the other one's."""
    return less_at(draw, other) is None


def cautious(draw, other):
    """Whether the draw, capped at any number, is no less than the other one."""
    return cautious_at(draw, other) is None


def bold(draw, other):
    """Whether the draw's excess over any number is no less than the other one's."""
    return bold_at(draw, other) is None


def less_at(draw, other):
    """The least number of both that the draw has a smaller chance to be above, None if there is none."""
    check_draw(draw)
    check_draw(other)
    return first_behind(draw, other, weight_above)


def cautious_at(draw, other):
    """The least number of both at which the draw, capped, has a smaller mean, None if there is none."""
    check_draw(draw)
    check_draw(other)
    return first_behind(draw, other, capped_mean)


def bold_at(draw, other):
    """The least number of both over which the draw has a smaller excess, None if there is none."""
    check_draw(draw)
    check_draw(other)
    return first_behind(draw, other, excess_mean)


def lift(draw, other):
    """A lift from the other draw to the draw, None if there is none."""
    if not never_less(draw, other):
        return None
    return lift_triples(other, draw)


def spread(draw, other):
    """A spread from the other draw to the draw, None if there is none."""
    if not bold(draw, other):
        return None
    return spread_triples(other, draw)


def sinking(draw, other):
    """A sinking from the draw to the other draw, None if there is none."""
    if not cautious(draw, other):
        return None
    # With the other sign of all numbers a sinking is a spread.
    triples = spread_triples(upside_down(draw), upside_down(other))
    return tuple([(negative(number), negative(goal), part) for number, goal, part in triples[::-1]])


def first_behind(draw, other, measure):
    """The least number of both at which the measure of the draw is less than that of the other one."""
    for number in in_order([number for number, _ in [*draw, *other]]):
        if is_below(measure(draw, number), measure(other, number)):
            return number
    return None


def upside_down(draw):
    """The draw with the other sign of all numbers."""
    return tuple([(negative(number), chance) for number, chance in draw[::-1]])
