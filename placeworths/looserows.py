"""Rows of loose webs: their form, their texts, their traps, and what chance can do within bounds."""

from placeworths.exact import ONE, ZERO, in_order, is_below, is_fraction, lesser, minus, plus, total
from placeworths.limits import MOST_ARROWS
from placeworths.webrows import are_rows_of, are_targets, greatest_lot, is_what, what_text
from placeworths.written import number_text


def are_loose_rows(value):
    """Whether the value has the form of rows of a loose web, with or without traps."""
    return are_rows_of(value, is_loose_what)


def is_loose_what(kind, what, places):
    """Whether this tells an end's bounds, or another place's arrows, for rows with these places."""
    if not isinstance(kind, str):
        return False
    if kind == "end":
        return isinstance(what, tuple) and len(what) == 2 and are_bounds(what[0], what[1])
    if kind == "chance":
        return are_loose_arrows(what, places)
    return kind in ("ours", "theirs") and is_what(kind, what, places)


def are_bounds(low, high):
    """Whether these are two numbers, the first one at most the second one."""
    return is_fraction(low) and is_fraction(high) and not is_below(high, low)


def are_loose_arrows(value, places):
    """Whether the value is a tuple of arrows with bounds, within which the chances can have the sum 1."""
    if not isinstance(value, tuple) or not 1 <= len(value) <= MOST_ARROWS:
        return False
    if not all([isinstance(arrow, tuple) and len(arrow) == 3 for arrow in value]):
        return False
    if not are_targets([arrow[0] for arrow in value], places):
        return False
    if not all([are_bounds(low, high) and low[0] >= 0 and not is_below(ONE, high) for _, low, high in value]):
        return False
    lows, highs = total([arrow[1] for arrow in value]), total([arrow[2] for arrow in value])
    return not is_below(ONE, lows) and not is_below(highs, ONE)


def loose_trap_of(rows):
    """The ascending tuple of the places of the greatest lot that is a trap of some member, () if there is none."""
    return greatest_lot(rows, may_stay)


def may_stay(row, lot):
    """Whether in some member chance at this inner place keeps within the lot, or who chooses there can do so."""
    _, kind, what = row
    if kind != "chance":
        return any([to in lot for to, _ in what])
    if not all([to in lot or low == ZERO for to, low, _ in what]):
        return False
    return not is_below(total([high for to, _, high in what if to in lot]), ONE)


def loose_text(rows):
    """The text of rows of a loose web, with a line for each place."""
    return "\n".join([f"{place} {kind} {loose_what_text(kind, what)}" for place, kind, what in rows])


def loose_what_text(kind, what):
    """The bounds of an end, or the arrows of another place, as a text."""
    if kind == "end":
        return bounds_text(what[0], what[1])
    if kind == "chance":
        return " ".join([f"{to}:{bounds_text(low, high)}" for to, low, high in what])
    return what_text(kind, what)


def bounds_text(low, high):
    """Two numbers as LOW,HIGH."""
    return f"{number_text(low)},{number_text(high)}"


class Bounds:
    """Arrows with bounds for their chances, of which chances are chosen."""

    def __init__(self, arrows):
        self.arrows_within = arrows

    def best(self, values, upward):
        """The mix with the greatest value, or with the least one, in which no chance is 0."""
        chances = {to: low for to, low, _ in self.arrows_within}
        room = {to: minus(high, low) for to, low, high in self.arrows_within}
        left = minus(ONE, total(list(chances.values())))
        for to in self.in_value_order(values, upward):
            more = lesser(left, room[to])
            chances[to] = plus(chances[to], more)
            left = minus(left, more)
        return (tuple([(to, chances[to]) for to in chances if chances[to] != ZERO]), ZERO)

    def in_value_order(self, values, upward):
        """The list of the arrows' places, from the greatest value on, or from the least one on."""
        places = [arrow[0] for arrow in self.arrows_within]
        ascending = in_order([values[to] for to in places])
        return [to for value in (ascending[::-1] if upward else ascending) for to in places if values[to] == value]
