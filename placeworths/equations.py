"""Linear equations with one answer, worked in integers.

A row (bottom, parts) says: bottom times a name is the sum of all columns, each times its integer in parts.
"""

from math import gcd, lcm

from placeworths.exact import reduced


def solved(equations):
    """What each name is made of, of such columns alone that are no names.

    The equations tell for each name a dict from columns, names or others, to fractions: the name is the sum
    of the columns, each times its fraction. Weights of names are from 0 on, and their ways lead out at last.
    """
    left = {name: whole_row(equations[name]) for name in equations}
    taken = []
    while left:
        # Short rows first: so few columns come into the other ones.
        name = min([(len(left[one][1]), one) for one in left])[1]
        row = without_itself(left[name], name)
        taken.append((name, row))
        left = {other: replaced(left[other], name, row) for other in left if other != name}
    rows = {}
    for name, row in taken[::-1]:
        rows[name] = replaced_all(row, rows)
    return {name: fractions_of(rows[name]) for name in equations}


def whole_row(fractions):
    """The row of an equation that is told in fractions."""
    bottom = 1
    for column in fractions:
        bottom = lcm(bottom, fractions[column][1])
    return (bottom, {column: fractions[column][0] * (bottom // fractions[column][1]) for column in fractions})


def without_itself(row, name):
    """The row of a name, solved for the name where it stands among its own columns."""
    bottom, parts = row
    return (bottom - parts.get(name, 0), {column: parts[column] for column in parts if column != name})


def replaced(row, name, by):
    """The row with another one in the place of a name among its columns."""
    bottom, parts = row
    if name not in parts:
        return row
    deep, inner = by
    common = gcd(parts[name], deep)
    times = parts[name] // common
    scale = deep // common
    told = {column: parts[column] * scale for column in parts if column != name}
    for column in inner:
        told[column] = told.get(column, 0) + inner[column] * times
    return lowest_row(bottom * scale, told)


def replaced_all(row, rows):
    """The row with those of all told names in their places."""
    told = row
    for name in row[1]:
        if name in rows:
            told = replaced(told, name, rows[name])
    return told


def lowest_row(bottom, parts):
    """The row without a divisor that all its integers have in common."""
    common = bottom
    for column in parts:
        common = gcd(common, parts[column])
        if common == 1:
            return (bottom, parts)
    return (bottom // common, {column: parts[column] // common for column in parts})


def fractions_of(row):
    """What a row tells of its name, in fractions."""
    bottom, parts = row
    return {column: reduced(parts[column], bottom) for column in parts}
