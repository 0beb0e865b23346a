"""Worths as bent lines: how they go as the number of one end changes."""

from placeworths.checks import check_number, check_place
from placeworths.errors import InvalidPieces
from placeworths.exact import ZERO, divided, in_order, is_below, minus, negative
from placeworths.pieces import are_pieces, line_from, line_value, pieces_of
from placeworths.tangents import bent_lines
from placeworths.webchecks import check_end, check_unmixed


def line(web, place, end):
    """The pieces of the worth of the place as the number of the end changes."""
    check_unmixed(web)
    check_place(place, web.places)
    check_end(web, end)
    return told_pieces(web, place, end)


def at(pieces, number):
    """What the pieces tell for a number."""
    if not are_pieces(pieces):
        raise InvalidPieces(pieces)
    check_number(number)
    return line_value(line_from(pieces, number), number)


def even_at(web, place, other, end):
    """All numbers of the end at which both places have the same worth, None if there are infinitely many."""
    check_unmixed(web)
    check_place(place, web.places)
    check_place(other, web.places)
    check_end(web, end)
    pieces, others = told_pieces(web, place, end), told_pieces(web, other, end)
    starts = in_order([piece[0] for piece in [*pieces[1:], *others[1:]]])
    found = []
    for start, stop in zip([None, *starts], [*starts, None]):
        slope, height = differences(line_from(pieces, start), line_from(others, start))
        if slope == ZERO and height == ZERO:
            return None
        if slope != ZERO and is_between(divided(negative(height), slope), start, stop):
            found.append(divided(negative(height), slope))
    return tuple(in_order(found))


def told_pieces(web, place, end):
    """The pieces of the worth of a place, for places that are known to be there."""
    return pieces_of(bent_lines(web.rows, place, end))


def differences(one, two):
    """The slope and the height of the first line less those of the second one."""
    return (minus(one[0], two[0]), minus(one[1], two[1]))


def is_between(number, start, stop):
    """Whether the number is neither below the start nor above the stop, None being no bound."""
    if start is not None and is_below(number, start):
        return False
    return stop is None or not is_below(stop, number)
