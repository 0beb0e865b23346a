"""Bids: what shares two players need, who bid for each move in a coin web, and which bids are safe."""

from placeworths.boards import rows_worths
from placeworths.checks import check_place, is_share
from placeworths.errors import AtAnEnd, InvalidBid, InvalidShare, InvalidSide
from placeworths.exact import ONE, in_order, is_below, minus, multiplied
from placeworths.mixes import HALF
from placeworths.webchecks import check_arrow, check_coins, check_web

FIRST = "first"
SECOND = "second"


def need(web, place):
    """The share that the first player must be above at this place."""
    check_web(web)
    check_place(place, web.places)
    check_coins(web)
    return needs_of(web)[place]


def needs(web):
    """The needs of all places, in their order."""
    check_web(web)
    check_coins(web)
    told = needs_of(web)
    return tuple([told[place] for place in web.places])


def step(web, place):
    """Half the difference of the greatest and the least need of the places to which the arrows lead."""
    check_web(web)
    check_place(place, web.places)
    check_coins(web)
    if web.kind(place) == "end":
        raise AtAnEnd()
    low, high = need_ends(web, needs_of(web), place)
    return multiplied(minus(high, low), HALF)


def winner(web, place, share):
    """The player who wins there if the first one has this share; None at the need."""
    check_web(web)
    check_place(place, web.places)
    check_share(share)
    check_coins(web)
    return winner_of(needs_of(web)[place], share)


def safe_range(web, place, share, side, to):
    """The ends of the range between which the player's bids for this arrow are safe, None if there is none."""
    check_bidding(web, place, share, side, to)
    check_coins(web)
    return range_of(web, place, share, side, to)


def is_safe(web, place, share, side, to, bid):
    """Whether the player's bid for this arrow is safe."""
    check_bidding(web, place, share, side, to)
    had = share if side == FIRST else minus(ONE, share)
    if not is_share(bid) or is_below(had, bid):
        raise InvalidBid(bid)
    check_coins(web)
    told = range_of(web, place, share, side, to)
    return told is not None and is_below(told[0], bid) and is_below(bid, told[1])


def check_bidding(web, place, share, side, to):
    """Raises what is due if one of these is not in form, or if no such arrow is there."""
    check_web(web)
    check_place(place, web.places)
    check_share(share)
    if not isinstance(side, str) or side not in (FIRST, SECOND):
        raise InvalidSide(side)
    check_place(to, web.places)
    check_arrow(web, place, to)


def check_share(value):
    """Raises InvalidShare if the value is no share."""
    if not is_share(value):
        raise InvalidShare(value)


def needs_of(web):
    """The needs of all places, a dict."""
    values = rows_worths(web.rows)
    return {place: minus(ONE, values[place]) for place in values}


def need_ends(web, told, place):
    """The least and the greatest need of the places to which the arrows of an inner place lead."""
    ascending = in_order([told[to] for to in web.arrows(place)])
    return (ascending[0], ascending[-1])


def winner_of(due, share):
    """The player who wins with this share of the first one where this is the need."""
    if share == due:
        return None
    return FIRST if is_below(due, share) else SECOND


def range_of(web, place, share, side, to):
    """The ends of the range of safe bids, None if the player does not win or if there is no number between."""
    told = needs_of(web)
    if winner_of(told[place], share) != side:
        return None
    low, high = need_ends(web, told, place)
    if side == FIRST:
        lower, upper = minus(high, share), minus(share, told[to])
    else:
        lower, upper = minus(share, low), minus(told[to], share)
    return (lower, upper) if is_below(lower, upper) else None
