"""Worths within so many moves.

All are kept as integers over one bottom, which grows with each move: so nothing is reduced until the end.
"""

from math import lcm

from placeworths.exact import reduced


def values_within(rows, moves, rest):
    """The worths within so many moves, a dict, all inner places having the rest with no move left."""
    begin = {place: what if kind == "end" else rest for place, kind, what in rows}
    bottom = common_bottom(list(begin.values()))
    scale = move_scale(rows)
    tops = {place: begin[place][0] * (bottom // begin[place][1]) for place in begin}
    for _ in range(moves):
        tops = {row[0]: top_ahead(row, tops, bottom, scale) for row in rows}
        bottom = bottom * scale
    return {place: reduced(tops[place], bottom) for place in tops}


def common_bottom(numbers):
    """The least bottom that all these numbers can have."""
    bottom = 1
    for number in numbers:
        bottom = lcm(bottom, number[1])
    return bottom


def move_scale(rows):
    """The factor by which the bottom grows with a move: all bottoms of chances and prices, and 2 for coins, go in."""
    told = [number for _, kind, what in rows if kind in ("chance", "ours", "theirs") for _, number in what]
    halves = [(1, 2) for row in rows if row[1] == "coin"]
    return common_bottom([*told, *halves])


def top_ahead(row, tops, bottom, scale):
    """What stands over the grown bottom, one move ahead of these tops over the bottom."""
    place, kind, what = row
    if kind == "end":
        return tops[place] * scale
    if kind == "chance":
        return sum([tops[to] * (top * (scale // low)) for to, (top, low) in what])
    if kind == "coin":
        come = [tops[to] for to in what]
        return (max(come) + min(come)) * (scale // 2)
    brought = [tops[to] * scale - bottom * (top * (scale // low)) for to, (top, low) in what]
    return max(brought) if kind == "ours" else min(brought)
