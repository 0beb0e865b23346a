"""Loose webs: chances and numbers of ends that are known only within bounds."""

from placeworths.boards import Board
from placeworths.checks import check_place
from placeworths.errors import InvalidLoose, NotALoose, Trapped
from placeworths.exact import ZERO, is_below, minus
from placeworths.looserows import Bounds, are_loose_rows, loose_text, loose_trap_of
from placeworths.mixes import Arrows, arrow_mixes
from placeworths.webchecks import check_web
from placeworths.webrows import row_of
from placeworths.webs import Web


class Loose:
    """Rows with bounds, all members of which are ending webs."""

    def __init__(self, rows):
        if not are_loose_rows(rows):
            raise InvalidLoose(rows)
        trap = loose_trap_of(rows)
        if trap:
            raise Trapped(trap)
        self._rows = rows
        self._places = tuple([row[0] for row in rows])

    @property
    def rows(self):
        """The rows of the loose web."""
        return self._rows

    @property
    def places(self):
        """The ascending tuple of all places."""
        return self._places

    @property
    def text(self):
        """The text of the rows."""
        return loose_text(self._rows)

    def __eq__(self, other):
        return isinstance(other, Loose) and self._rows == other._rows


def least(loose):
    """The tuple of the least worths, in the order of the places."""
    check_loose(loose)
    return tuple(outer_worths(loose, False))


def greatest(loose):
    """The tuple of the greatest worths, in the order of the places."""
    check_loose(loose)
    return tuple(outer_worths(loose, True))


def least_member(loose):
    """A member that has the least worths at all places."""
    check_loose(loose)
    return outer_member(loose, False)


def greatest_member(loose):
    """A member that has the greatest worths at all places."""
    check_loose(loose)
    return outer_member(loose, True)


def is_member(loose, web):
    """Whether the web is a member."""
    check_loose(loose)
    check_web(web)
    if loose.places != web.places:
        return False
    return all([is_within(row, bounds) for row, bounds in zip(web.rows, loose.rows)])


def sure_arrows(loose, place):
    """Where those arrows of ours or theirs lead that bring enough at their worst, whatever the others bring."""
    check_loose(loose)
    check_place(place, loose.places)
    _, kind, what = row_of(loose.rows, place)
    if kind in ("end", "chance"):
        return ()
    low = dict(zip(loose.places, outer_worths(loose, False)))
    high = dict(zip(loose.places, outer_worths(loose, True)))
    # For each arrow what it brings at its worst, and at its best, to the one who chooses.
    worst, best = (low, high) if kind == "ours" else (high, low)
    told = []
    for to, price in what:
        others = [minus(best[one], other) for one, other in what if one != to]
        sure = minus(worst[to], price)
        if not any([is_below(sure, other) if kind == "ours" else is_below(other, sure) for other in others]):
            told.append(to)
    return tuple(told)


def check_loose(value):
    """Raises NotALoose if the value is no loose web."""
    if not isinstance(value, Loose):
        raise NotALoose(value)


def loose_board(rows, upward):
    """The board on which chance moves, within its bounds, for the greatest worths, or for the least ones."""
    numbers = {place: what[1] if upward else what[0] for place, kind, what in rows if kind == "end"}
    highs = {row[0]: Arrows(arrow_mixes(row)) for row in rows if row[1] == "ours"}
    lows = {row[0]: Arrows(arrow_mixes(row)) for row in rows if row[1] == "theirs"}
    chances = {place: Bounds(what) for place, kind, what in rows if kind == "chance"}
    if upward:
        return Board(numbers, {}, {**highs, **chances}, lows)
    return Board(numbers, {}, highs, {**lows, **chances})


def settled_board(rows, upward):
    """The worths if chance does its best for them, or against them, and the best choices."""
    board = loose_board(rows, upward)
    nothing = {row[0]: ZERO for row in rows}
    high = {place: board.highs[place].best(nothing, True) for place in board.highs}
    low = {place: board.lows[place].best(nothing, False) for place in board.lows}
    return board.settled(high, low)


def outer_worths(loose, upward):
    """The list of the greatest worths, or of the least ones, in the order of the places."""
    values = settled_board(loose.rows, upward)[0]
    return [values[place] for place in loose.places]


def outer_member(loose, upward):
    """A member that has the greatest worths, or the least ones."""
    _, high, low = settled_board(loose.rows, upward)
    chosen = high if upward else low
    return Web(tuple([member_row(row, chosen, upward) for row in loose.rows]))


def member_row(row, chosen, upward):
    """The row of a member with the outer number of an end, with the chosen chances."""
    place, kind, what = row
    if kind == "end":
        return (place, kind, what[1] if upward else what[0])
    if kind == "chance":
        return (place, kind, chosen[place][0])
    return row


def is_within(row, bounds):
    """Whether the row of a web can be one of a member whose loose row has these bounds."""
    _, kind, what = row
    _, other, told = bounds
    if kind != other:
        return False
    if kind == "end":
        return not is_below(what, told[0]) and not is_below(told[1], what)
    if kind != "chance":
        return what == told
    chances = dict(what)
    for to, low, high in told:
        chance = chances.get(to, ZERO)
        if is_below(chance, low) or is_below(high, chance):
            return False
    known = [arrow[0] for arrow in told]
    return all([to in known for to in chances])
