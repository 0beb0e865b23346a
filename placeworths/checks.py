"""The forms of what is given, and the errors that are raised where a form is not kept."""

from placeworths.errors import (
    InvalidBox, InvalidCompany, InvalidDraw, InvalidDraws, InvalidIndex, InvalidNumber, InvalidRow, UnknownPlace,
)
from placeworths.exact import are_ascending, are_shares, is_fraction, is_integer
from placeworths.limits import MOST_DRAWS, MOST_PAIRS

MOST_BOTTOM = 10 ** 6


def are_fraction_pairs(value):
    """Whether all that a tuple has are pairs of fractions."""
    for pair in value:
        if not isinstance(pair, tuple) or len(pair) != 2:
            return False
        if not is_fraction(pair[0]) or not is_fraction(pair[1]):
            return False
    return True


def is_draw(value):
    """Whether the value is a draw of 1 to 64 pairs."""
    if not isinstance(value, tuple) or not 1 <= len(value) <= MOST_PAIRS:
        return False
    if not are_fraction_pairs(value):
        return False
    return are_ascending([number for number, _ in value]) and are_shares([chance for _, chance in value])


def is_row(value):
    """Whether the value is a tuple of one to six draws."""
    if not isinstance(value, tuple) or not 1 <= len(value) <= MOST_DRAWS:
        return False
    return all([is_draw(draw) for draw in value])


def is_price(value):
    """Whether the value is a number from 0 on."""
    return is_fraction(value) and value[0] >= 0


def is_box(value):
    """Whether the value is a pair of a draw and a price."""
    if not isinstance(value, tuple) or len(value) != 2:
        return False
    return is_draw(value[0]) and is_price(value[1])


def is_company(value):
    """Whether the value is a tuple of up to six boxes."""
    if not isinstance(value, tuple) or len(value) > MOST_DRAWS:
        return False
    return all([is_box(box) for box in value])


def is_part(value):
    """Whether the value is a number from 0 to 1."""
    return is_fraction(value) and 0 <= value[0] <= value[1]


def is_share(value):
    """Whether the value is a number from 0 to 1 with a bottom that is not too great."""
    return is_part(value) and value[1] <= MOST_BOTTOM


def are_numbers(value, count):
    """Whether the value is a tuple of so many numbers."""
    if not isinstance(value, tuple) or len(value) != count:
        return False
    return all([is_fraction(number) for number in value])


def check_draw(value):
    """Raises InvalidDraw if the value is no draw."""
    if not is_draw(value):
        raise InvalidDraw(value)


def check_draws(value):
    """Raises InvalidDraws if the value is no tuple of one to six draws."""
    if not is_row(value):
        raise InvalidDraws(value)


def check_row(value):
    """Raises InvalidRow if the value is no row of draws."""
    if not is_row(value):
        raise InvalidRow(value)


def check_number(value):
    """Raises InvalidNumber if the value is no number."""
    if not is_fraction(value):
        raise InvalidNumber(value)


def check_price(value):
    """Raises InvalidNumber if the value is no number from 0 on."""
    if not is_price(value):
        raise InvalidNumber(value)


def check_box(value):
    """Raises InvalidBox if the value is no box."""
    if not is_box(value):
        raise InvalidBox(value)


def check_company(value):
    """Raises InvalidCompany if the value is no company."""
    if not is_company(value):
        raise InvalidCompany(value)


def check_index(value, count):
    """Raises InvalidIndex if the value is no index of so many things."""
    if not is_integer(value) or not 0 <= value < count:
        raise InvalidIndex(value)


def check_place(value, places):
    """Raises UnknownPlace if the value is none of the places."""
    if not isinstance(value, str) or value not in places:
        raise UnknownPlace(value)
