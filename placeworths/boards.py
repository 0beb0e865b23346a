"""Boards: who moves where, and what comes of it if each side does its best.

A choice is a dict from places to mixes. Choices are bettered where this brings strictly more, all others
staying as they are: so, beginning with ways that lead to ends, they lead to ends also where a coin web has traps.
"""

from placeworths.equations import solved
from placeworths.exact import ZERO, multiplied, plus
from placeworths.mixes import Arrows, arrow_mixes, halves, is_better, mix_value
from placeworths.webrows import targets

SURE = ""


class Board:
    """Numbers of ends, mixes of chance, and what can be chosen for the greatest and for the least worth.

    A place that is among the highs and among the lows is a coin's.
    """

    def __init__(self, numbers, chances, highs, lows):
        self.numbers = numbers
        self.chances = chances
        self.highs = highs
        self.lows = lows

    def mixes(self, high, low):
        """The mixes of all inner places, if these are the choices."""
        told = dict(self.chances)
        for place in self.highs:
            told[place] = halves(high[place], low[place]) if place in self.lows else high[place]
        for place in self.lows:
            if place not in self.highs:
                told[place] = low[place]
        return told

    def parts(self, high, low):
        """What the worths of all inner places are made of with these choices: SURE, and ends without a number."""
        told = self.mixes(high, low)
        return solved({place: self.equation(told[place]) for place in told})

    def equation(self, mix):
        """A mix with the numbers of ends in their places."""
        pairs, sure = mix
        told = {}
        for place, weight in pairs:
            if place in self.numbers:
                sure = plus(sure, multiplied(self.numbers[place], weight))
            else:
                told[place] = plus(told.get(place, ZERO), weight)
        told[SURE] = sure
        return told

    def led_to(self, high, low):
        """The worths of all places with these choices."""
        told = dict(self.numbers)
        parts = self.parts(high, low)
        for place in parts:
            told[place] = parts[place][SURE]
        return told

    def answered(self, high, low):
        """The worths against this choice of the highs, and the best choice of the lows, found from a told one on."""
        told = self.led_to(high, low)
        better = bettered(self.lows, low, told, False)
        while better != low:
            low = better
            told = self.led_to(high, low)
            better = bettered(self.lows, low, told, False)
        return (told, low)

    def settled(self, high, low):
        """The worths, and best choices of both sides, found from told ones on."""
        told, low = self.answered(high, low)
        better = bettered(self.highs, high, told, True)
        while better != high:
            high = better
            told, low = self.answered(high, low)
            better = bettered(self.highs, high, told, True)
        return (told, high, low)


def bettered(options, choice, values, upward):
    """The choice with a best mix wherever this is strictly better than the chosen one."""
    told = {}
    for place in options:
        mix = options[place].best(values, upward)
        better = is_better(mix_value(mix, values), mix_value(choice[place], values), upward)
        told[place] = mix if better else choice[place]
    return told


def rows_board(rows):
    """The board of the rows of a web."""
    return Board(
        {place: what for place, kind, what in rows if kind == "end"},
        {place: (what, ZERO) for place, kind, what in rows if kind == "chance"},
        {row[0]: Arrows(arrow_mixes(row)) for row in rows if row[1] in ("ours", "coin")},
        {row[0]: Arrows(arrow_mixes(row)) for row in rows if row[1] in ("theirs", "coin")},
    )


def rows_start(rows):
    """The pair of choices of both sides, along ways to ends."""
    ways = ways_out(rows)
    told = {
        row[0]: [mix for mix in arrow_mixes(row) if mix[0][0][0] == ways[row[0]]][0]
        for row in rows if row[1] in ("ours", "theirs", "coin")
    }
    high = {row[0]: told[row[0]] for row in rows if row[1] in ("ours", "coin")}
    low = {row[0]: told[row[0]] for row in rows if row[1] in ("theirs", "coin")}
    return (high, low)


def ways_out(rows):
    """For each inner place one to which an arrow leads, such that these arrows alone lead to an end."""
    leading = [row[0] for row in rows if row[1] == "end"]
    ways = {}
    while len(leading) < len(rows):
        nearer = {}
        for row in rows:
            near = [to for to in targets(row) if to in leading]
            if near and row[0] not in leading:
                nearer[row[0]] = near[0]
        for place in nearer:
            ways[place] = nearer[place]
        leading = [*leading, *nearer]
    return ways


def rows_worths(rows):
    """The worths of the rows of a web, a dict from places to fractions."""
    high, low = rows_start(rows)
    return rows_board(rows).settled(high, low)[0]
