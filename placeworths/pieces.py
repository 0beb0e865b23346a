"""Pieces of bent lines: triples (from, slope, height); lines are pairs (slope, height)."""

from placeworths.exact import are_ascending, divided, is_below, is_fraction, minus, multiplied, plus


def line_value(line, number):
    """What a line tells for a number."""
    return plus(multiplied(line[0], number), line[1])


def meeting(line, other):
    """The number for which two lines of unlike slopes tell the same."""
    return divided(minus(line[1], other[1]), minus(other[0], line[0]))


def are_pieces(value):
    """Whether the value tells the pieces of a line that meet, from ascending numbers on."""
    if not isinstance(value, tuple) or not value or not all([has_line(piece) for piece in value]):
        return False
    starts = [piece[0] for piece in value[1:]]
    if value[0][0] is not None or not all([is_fraction(start) for start in starts]) or not are_ascending(starts):
        return False
    return all([do_meet(piece, after) for piece, after in zip(value, value[1:])])


def has_line(value):
    """Whether the value is a triple of anything, a slope and a height."""
    if not isinstance(value, tuple) or len(value) != 3:
        return False
    return is_fraction(value[1]) and is_fraction(value[2])


def do_meet(piece, after):
    """Whether two pieces are unlike in slope, and tell the same where the second one begins."""
    return piece[1] != after[1] and line_value(piece[1:], after[0]) == line_value(after[1:], after[0])


def line_from(pieces, start):
    """The line of the piece that holds from this number on, for None that of the first piece."""
    told = pieces[0]
    for piece in pieces[1:]:
        if start is not None and not is_below(start, piece[0]):
            told = piece
    return told[1:]


def pieces_of(lines):
    """The pieces of a line that is made of these lines, in their order, each one up to where the next one meets it.

    Of lines that hold at one number alone nothing is told.
    """
    starts = [meeting(line, after) for line, after in zip(lines, lines[1:])]
    told = []
    for line, start, stop in zip(lines, [None, *starts], [*starts, None]):
        if start is None or start != stop:
            told.append((start, line[0], line[1]))
    return tuple(told)
