"""Rows of webs: their form, their texts, their traps and their ways to ends."""

from placeworths.exact import are_shares, is_fraction
from placeworths.limits import MOST_ARROWS, MOST_PLACES
from placeworths.written import number_in, number_text

LETTERS = "abcdefghijklmnopqrstuvwxyz"
DIGITS = "0123456789"


def is_place(value):
    """Whether the value has the form of a place."""
    if not isinstance(value, str) or not 1 <= len(value) <= 3:
        return False
    return value[0] in LETTERS and all([sign in LETTERS or sign in DIGITS for sign in value])


def are_rows(value):
    """Whether the value has the form of rows of a web, with or without traps."""
    return are_rows_of(value, is_what)


def are_rows_of(value, is_form):
    """Whether the value has rows of ascending places, for which the function tells whether the others have a form."""
    if not isinstance(value, tuple) or not 1 <= len(value) <= MOST_PLACES:
        return False
    for row in value:
        if not isinstance(row, tuple) or len(row) != 3 or not is_place(row[0]):
            return False
    places = [row[0] for row in value]
    if not is_ascending(places):
        return False
    return all([is_form(row[1], row[2], places) for row in value])


def is_ascending(words):
    """Whether each of a list of strings is greater than the one ahead of it."""
    return all([low < high for low, high in zip(words, words[1:])])


def is_what(kind, what, places):
    """Whether this tells an end's number, or another place's arrows, for rows with these places."""
    if not isinstance(kind, str):
        return False
    if kind == "end":
        return is_fraction(what)
    if not isinstance(what, tuple) or not 1 <= len(what) <= MOST_ARROWS:
        return False
    if kind == "coin":
        return are_targets(what, places)
    if kind not in ("chance", "ours", "theirs"):
        return False
    if not all([isinstance(arrow, tuple) and len(arrow) == 2 for arrow in what]):
        return False
    numbers = [arrow[1] for arrow in what]
    if not are_targets([arrow[0] for arrow in what], places) or not all([is_fraction(one) for one in numbers]):
        return False
    return kind != "chance" or are_shares(numbers)


def are_targets(values, places):
    """Whether the values are some of the places, ascending."""
    if not all([isinstance(value, str) and value in places for value in values]):
        return False
    return is_ascending(values)


def targets(row):
    """The tuple of the places to which the arrows of a row lead."""
    _, kind, what = row
    if kind == "end":
        return ()
    if kind == "coin":
        return what
    return tuple([arrow[0] for arrow in what])


def row_of(rows, place):
    """The row of a place that is there."""
    return [row for row in rows if row[0] == place][0]


def trap_of(rows):
    """The ascending tuple of the places of the greatest trap, () if there is none."""
    return greatest_lot(rows, can_stay)


def greatest_lot(rows, stays):
    """The ascending tuple of the most inner places of which the function tells that each can stay among them."""
    lot = [row[0] for row in rows if row[1] != "end"]
    size = len(rows) + 1
    while len(lot) < size:
        size = len(lot)
        lot = [row[0] for row in rows if row[0] in lot and stays(row, lot)]
    return tuple(lot)


def can_stay(row, lot):
    """Whether chance at this inner place, or who chooses there, can keep within the lot."""
    inside = [to in lot for to in targets(row)]
    return all(inside) if row[1] == "chance" else any(inside)


def are_coin_rows(rows):
    """Whether all inner places are coins from which some way leads to an end."""
    if not all([row[1] in ("end", "coin") for row in rows]):
        return False
    leading = [row[0] for row in rows if row[1] == "end"]
    size = 0
    while size < len(leading):
        size = len(leading)
        leading = [row[0] for row in rows if row[0] in leading or any([to in leading for to in targets(row)])]
    return size == len(rows)


def rows_text(rows):
    """The text of rows, with a line for each place."""
    return "\n".join([f"{row[0]} {row[1]} {what_text(row[1], row[2])}" for row in rows])


def what_text(kind, what):
    """The number of an end, or the arrows of another place, as a text."""
    if kind == "end":
        return number_text(what)
    if kind == "coin":
        return " ".join(what)
    return " ".join([f"{to}:{number_text(number)}" for to, number in what])


def rows_in(text):
    """The rows with this text, None if there are none."""
    rows = tuple([row_in(line) for line in text.split("\n")])
    return rows if are_rows(rows) else None


def row_in(line):
    """The triple that is written in a line, with what stands there for what is in no form, None for no number."""
    place, _, told = line.partition(" ")
    kind, _, what = told.partition(" ")
    if kind == "end":
        return (place, kind, number_in(what))
    words = what.split(" ")
    if kind == "coin":
        return (place, kind, tuple(words))
    return (place, kind, tuple([arrow_in(word) for word in words]))


def arrow_in(word):
    """The pair that is written as an arrow with its chance or price, with None for what is no number."""
    to, _, number = word.partition(":")
    return (to, number_in(number))
