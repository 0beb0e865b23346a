"""How the worth of a place goes as one end's number changes, in rows where chance and one side alone move.

The worth is the greatest one, or the least one, of the lines of all plans. So the line of plans that are
best for one number touches it there, and lies on one side of it everywhere else.
"""

from placeworths.boards import SURE, Board, rows_board, rows_start, rows_worths
from placeworths.exact import ONE, ZERO, multiplied, negative
from placeworths.pieces import line_value, meeting
from placeworths.webrows import targets


def bent_lines(rows, place, end):
    """The list of the lines of which the worth of the place is made, from the least numbers of the end on."""
    return lines_between(rows, place, end, far_line(rows, place, end, negative(ONE)), far_line(rows, place, end, ONE))


def lines_between(rows, place, end, first, last):
    """The list of the lines from the first one to the last one, both of which touch the worth."""
    # For an end, as for a place that cannot do other than lead on, both are the one line there is.
    if first == last:
        return [first]
    number = meeting(first, last)
    middle = touching_line(rows, place, end, number)
    if line_value(middle, number) == line_value(first, number):
        return [first, last]
    ahead = lines_between(rows, place, end, first, middle)
    return [*ahead, *lines_between(rows, place, end, middle, last)[1:]]


def touching_line(rows, place, end, number):
    """The line of plans that are best if the end has this number, for an inner place."""
    high, low = rows_start(rows)
    board = rows_board([(end, "end", number) if row[0] == end else row for row in rows])
    _, high, low = board.settled(high, low)
    others = {one: board.numbers[one] for one in board.numbers if one != end}
    parts = Board(others, board.chances, board.highs, board.lows).parts(high, low)
    return (parts[place].get(end, ZERO), parts[place][SURE])


def far_line(rows, place, end, sign):
    """The line of the worth for all numbers of the end that are large enough, times the sign, 1 or -1."""
    slopes = rows_worths([bare_row(row, end, sign) for row in rows])
    # Far out the chance of the end counts first: so only arrows that are best for it alone are left.
    kept = [kept_row(row, slopes) for row in rows]
    heights = rows_worths([(end, "end", ZERO) if row[0] == end else row for row in kept])
    return (multiplied(slopes[place], sign), heights[place])


def bare_row(row, end, number):
    """The row without prices, with this number at the end and 0 at all others."""
    place, kind, what = row
    if kind == "end":
        return (place, kind, number if place == end else ZERO)
    if kind == "chance":
        return row
    return (place, kind, tuple([(to, ZERO) for to in targets(row)]))


def kept_row(row, slopes):
    """The row with those arrows alone of ours and theirs that lead to the same slope."""
    place, kind, what = row
    if kind in ("end", "chance"):
        return row
    return (place, kind, tuple([(to, price) for to, price in what if slopes[to] == slopes[place]]))
