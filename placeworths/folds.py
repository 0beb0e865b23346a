"""Webs made smaller and larger: folds, struck places, grafted webs."""

from placeworths.checks import check_place
from placeworths.errors import InvalidPlace, NotApart, NotStruck, TooMany
from placeworths.exact import ONE, ZERO, divided, greater, lesser, minus, multiplied, plus
from placeworths.limits import MOST_ARROWS, MOST_PLACES
from placeworths.webchecks import check_end, check_web
from placeworths.webrows import is_ascending, row_of, targets
from placeworths.webs import Web


def coarsest(web):
    """The fold with the fewest lots, in the order of their first places."""
    check_web(web)
    return coarsest_lots(web.rows)


def is_fold(web, lots):
    """Whether the value is a fold of the web, told as coarsest tells it."""
    check_web(web)
    if not is_parting(lots, web.places):
        return False
    lot_of = firsts_of(lots)
    views = {row[0]: seen_by_lots(row, lot_of) for row in web.rows}
    return all([views[place] == views[lot[0]] for lot in lots for place in lot])


def folded(web):
    """The web folded by the coarsest fold: the first place of each lot."""
    check_web(web)
    lot_of = firsts_of(coarsest_lots(web.rows))
    return Web(tuple([(row[0], *seen_by_lots(row, lot_of)) for row in web.rows if lot_of[row[0]] == row[0]]))


def struck(web, place):
    """The web without a chance place, past which the arrows to it lead on."""
    check_web(web)
    check_place(place, web.places)
    if web.kind(place) != "chance":
        raise InvalidPlace(place)
    if any([place in targets(row) for row in web.rows if row[1] != "chance"]):
        raise NotStruck()
    onward = parts_on_leaving(web.rows, place)
    rows = tuple([past_row(row, place, onward) for row in web.rows if row[0] != place])
    if any([len(targets(row)) > MOST_ARROWS for row in rows]):
        raise TooMany(MOST_ARROWS)
    return Web(rows)


def grafted(web, end, other, start):
    """The web with all places of the other one in the place of the end, the arrows to the end leading to start."""
    check_web(web)
    check_end(web, end)
    check_web(other)
    check_place(start, other.places)
    if any([place in web.places and place != end for place in other.places]):
        raise NotApart()
    rows = [redirected_row(row, end, start) for row in web.rows if row[0] != end]
    if len(rows) + len(other.rows) > MOST_PLACES:
        raise TooMany(MOST_PLACES)
    return Web(tuple(sorted([*rows, *other.rows])))


def coarsest_lots(rows):
    """The lots of the coarsest fold, in the order of their first places."""
    lot_of = {row[0]: "" for row in rows}
    count = 0
    lots = [[row[0] for row in rows]]
    while count < len(lots):
        count = len(lots)
        # Places that were parted stay parted: so the lots only get smaller.
        views = {row[0]: (lot_of[row[0]], seen_by_lots(row, lot_of)) for row in rows}
        gathered = {}
        for place in views:
            gathered[views[place]] = [*gathered.get(views[place], []), place]
        lots = [gathered[view] for view in gathered]
        lot_of = firsts_of(lots)
    return tuple([tuple(lot) for lot in lots])


def firsts_of(lots):
    """For each place the first one of its lot."""
    return {place: lot[0] for lot in lots for place in lot}


def seen_by_lots(row, lot_of):
    """The kind of a row and what it tells, with lots in the place of places."""
    _, kind, what = row
    if kind == "end":
        return (kind, what)
    if kind == "coin":
        return (kind, tuple(sorted({lot_of[to]: True for to in what})))
    told = {}
    for to, number in what:
        lot = lot_of[to]
        told[lot] = joined(kind, told[lot], number) if lot in told else number
    return (kind, tuple([(lot, told[lot]) for lot in sorted(told)]))


def joined(kind, number, other):
    """What two arrows to one lot come to: their chances together, or the better price."""
    if kind == "chance":
        return plus(number, other)
    return lesser(number, other) if kind == "ours" else greater(number, other)


def is_parting(value, places):
    """Whether the value is a tuple of ascending tuples of all places, in the order of their first ones."""
    if not isinstance(value, tuple) or not all([isinstance(lot, tuple) and lot for lot in value]):
        return False
    told = [place for lot in value for place in lot]
    if not all([isinstance(place, str) for place in told]) or sorted(told) != list(places):
        return False
    return all([is_ascending(lot) for lot in value]) and is_ascending([lot[0] for lot in value])


def parts_on_leaving(rows, place):
    """The chances of the places to which a chance place leads when it leaves itself."""
    chances = dict(row_of(rows, place)[2])
    leaving = minus(ONE, chances.get(place, ZERO))
    return {to: divided(chances[to], leaving) for to in chances if to != place}


def past_row(row, place, onward):
    """The row with the parts that lead onward in the place of its arrow to the place, if it has one."""
    here, kind, what = row
    if place not in targets(row):
        return row
    chances = {to: chance for to, chance in what if to != place}
    through = dict(what)[place]
    for to in onward:
        chances[to] = plus(chances.get(to, ZERO), multiplied(through, onward[to]))
    return (here, kind, tuple([(to, chances[to]) for to in sorted(chances)]))


def redirected_row(row, end, start):
    """The row with its arrow to the end, if it has one, leading to the start."""
    place, kind, what = row
    if end not in targets(row):
        return row
    if kind == "coin":
        return (place, kind, tuple(sorted([start if to == end else to for to in what])))
    return (place, kind, tuple(sorted([(start if to == end else to, number) for to, number in what])))
