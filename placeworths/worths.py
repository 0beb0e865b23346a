"""Worths of webs, best arrows, plans that are held, worths within moves."""

from placeworths.boards import rows_worths
from placeworths.checks import check_number, check_place
from placeworths.errors import InvalidNumber, InvalidPlan, InvalidSide
from placeworths.exact import is_integer, negative
from placeworths.limits import MOST_MOVES
from placeworths.mixes import arrow_mixes, is_better, mix_value
from placeworths.moves import values_within
from placeworths.webchecks import check_web
from placeworths.webrows import row_of, targets
from placeworths.webs import Web

OTHER_SIDE = {"ours": "theirs", "theirs": "ours"}


def worths(web):
    """The tuple of the worths, in the order of the places."""
    check_web(web)
    return in_place_order(web, rows_worths(web.rows))


def worth(web, place):
    """The worth of a place."""
    check_web(web)
    check_place(place, web.places)
    return rows_worths(web.rows)[place]


def best_arrows(web, place):
    """Where the best arrows lead; at a coin the pair of those that are best for us, and for them."""
    check_web(web)
    check_place(place, web.places)
    kind = web.kind(place)
    if kind in ("end", "chance"):
        return ()
    row = row_of(web.rows, place)
    values = rows_worths(web.rows)
    if kind == "coin":
        return (best_targets(row, values, True), best_targets(row, values, False))
    return best_targets(row, values, kind == "ours")


def plan(web, side):
    """A plan of the side along best arrows."""
    check_web(web)
    check_side(side)
    values = rows_worths(web.rows)
    return tuple([(row[0], first_best(row, values)) for row in web.rows if row[1] == side])


def held(web, side, plan):
    """The worths if the side holds this plan, and the other side does its best."""
    check_web(web)
    check_side(side)
    rows = [row for row in web.rows if row[1] == side]
    if not is_plan(plan, rows):
        raise InvalidPlan(plan)
    kept = dict(plan)
    return in_place_order(web, rows_worths(tuple([held_row(row, kept) for row in web.rows])))


def within(web, moves, rest):
    """The worths within so many moves, all inner places having the rest with no move left."""
    check_web(web)
    if not is_integer(moves) or not 0 <= moves <= MOST_MOVES:
        raise InvalidNumber(moves)
    check_number(rest)
    return in_place_order(web, values_within(web.rows, moves, rest))


def turned(web):
    """The web with ours and theirs exchanged, and the other sign of all prices and numbers of ends."""
    check_web(web)
    return Web(tuple([turned_row(row) for row in web.rows]))


def check_side(value):
    """Raises InvalidSide if the value is neither "ours" nor "theirs"."""
    if not isinstance(value, str) or value not in OTHER_SIDE:
        raise InvalidSide(value)


def in_place_order(web, values):
    """The tuple of the values of a web's places, in their order."""
    return tuple([values[place] for place in web.places])


def best_targets(row, values, upward):
    """The ascending tuple of the places to which those arrows lead that bring the most, or the least."""
    brought = [mix_value(mix, values) for mix in arrow_mixes(row)]
    told = []
    for to, value in zip(targets(row), brought):
        if not any([is_better(other, value, upward) for other in brought]):
            told.append(to)
    return tuple(told)


def first_best(row, values):
    """Where the first best arrow of ours, of theirs, leads; None at other places."""
    if row[1] not in OTHER_SIDE:
        return None
    return best_targets(row, values, row[1] == "ours")[0]


def is_plan(value, rows):
    """Whether the value tells for each one of these rows, in their order, where one of its arrows leads."""
    if not isinstance(value, tuple) or len(value) != len(rows):
        return False
    return all([is_choice(pair, row) for pair, row in zip(value, rows)])


def is_choice(value, row):
    """Whether the value is a pair of the row's place and of one to which its arrows lead."""
    if not isinstance(value, tuple) or len(value) != 2:
        return False
    place, to = value
    if not isinstance(place, str) or not isinstance(to, str):
        return False
    return place == row[0] and to in targets(row)


def held_row(row, kept):
    """The row with the kept arrow alone, if there is one for its place."""
    place, kind, what = row
    if place not in kept:
        return row
    return (place, kind, tuple([arrow for arrow in what if arrow[0] == kept[place]]))


def turned_row(row):
    """The row as the other side sees it."""
    place, kind, what = row
    if kind == "end":
        return (place, kind, negative(what))
    if kind in OTHER_SIDE:
        return (place, OTHER_SIDE[kind], tuple([(to, negative(price)) for to, price in what]))
    return row
