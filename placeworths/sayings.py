"""Lines for the console: a line says a tuple of a word, a name, and what else belongs to it."""

from placeworths.checks import is_share
from placeworths.claims import is_name
from placeworths.webrows import is_place, rows_in
from placeworths.written import number_in

PARTS = {
    "between": ("place", "number", "number"), "above": ("place", "place"), "best": ("place", "place"), "ending": (),
    "wins": ("place", "share"), "worth": ("place",), "worths": (), "advice": ("place",), "need": ("place",),
}
BREAK = " / "


def saying_of(line):
    """What a line says, None if it is no line."""
    if not isinstance(line, str) or "\n" in line:
        return None
    words = line.split(" ")
    if words == ["undo"]:
        return ("undo",)
    if len(words) == 2 and words[0] == "drop":
        return ("drop", words[1]) if is_name(words[1]) else None
    if len(words) < 2 or not is_name(words[0]):
        return None
    name, word, *rest = words
    if word == "=":
        rows = rows_in(" ".join(rest).replace(BREAK, "\n"))
        return None if rows is None else ("set", name, rows)
    if word not in PARTS or len(rest) != len(PARTS[word]):
        return None
    told = [part_in(kind, text) for kind, text in zip(PARTS[word], rest)]
    return None if None in told else (word, name, *told)


def part_in(kind, text):
    """The place, the number or the share that a word of a line tells, None if it tells none."""
    if kind == "place":
        return text if is_place(text) else None
    number = number_in(text)
    return number if kind == "number" or is_share(number) else None
