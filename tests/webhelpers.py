"""What the tests of webs need: some webs, and their worths found in another way, by search through all plans."""

from fractions import Fraction
from itertools import product

from placeworths.errors import Trapped
from placeworths.webs import Web
from tests.helpers import Nasty, fraction, number, odd_values

NAMES = [f"{first}{second}" for first in "abc" for second in "0123456789"]
STREET = Web.read("a ours b:1/2 x:0/1\nb chance a:1/2 y:1/2\nx end 1/1\ny end 3/1")
DUEL = Web.read("a coin b x\nb coin a y\nx end 0/1\ny end 1/1")
ENDS = Web.read("x end 0/1\ny end 1/1")
MIXES = (
    ("chance", "ours", "theirs"), ("chance", "ours"), ("chance", "theirs", "coin"), ("chance",), ("coin",),
    ("coin", "chance", "chance", "ours", "theirs"), ("coin", "coin", "chance"),
)


class LikeAWeb:
    """Has what a web has, but is none."""

    rows = DUEL.rows
    places = DUEL.places
    ends = DUEL.ends


def wrong_webs():
    """Values that are no webs."""
    return odd_values() + [DUEL.rows, DUEL.text, (DUEL,), [DUEL], Web, LikeAWeb(), LikeAWeb, {"a": DUEL}, Nasty(), 0]


def wrong_places():
    """Values that are no places of the webs of this file."""
    return odd_values_without_places() + ["", "c", "A", "aa", "a ", ("a",), b"a", Nasty(), "x1", "ab", "xy", ("x",), 1]


def odd_values_without_places():
    """Odd values, none of which is equal to a place."""
    return [value for value in odd_values() if type(value) is not str or value in ("", " ", "A", "a b")]


def parts(random, count):
    """So many chances above 0, together 1."""
    weights = [random.randint(1, 4) for _ in range(count)]
    return [number(Fraction(weight, sum(weights))) for weight in weights]


def random_row(random, place, kind, places, most):
    """A row of an inner place with some arrows."""
    to = sorted(random.sample(places, random.randint(1, min(most, len(places)))))
    if kind == "coin":
        return (place, kind, tuple(to))
    if kind == "chance":
        return (place, kind, tuple(zip(to, parts(random, len(to)))))
    return (place, kind, tuple((one, number(Fraction(random.randint(-3, 3), random.choice((1, 1, 2))))) for one in to))


def allowed(random, place, kind, places, last):
    """The places to which arrows may lead: at most of ours and of theirs only further ones, so that few are trapped."""
    if kind in ("ours", "theirs") and random.randint(0, 3):
        return [one for one in places if one > place or one in last]
    return places


def random_web(random, inner, ends, kinds, most=3, low=-4, high=4, bottom=1):
    """Some web of so many inner places and ends, of these kinds."""
    while True:
        places = sorted(random.sample(NAMES[:inner + ends + 2], inner + ends))
        last = random.sample(places, ends)
        rows = []
        for place in places:
            if place in last:
                rows.append((place, "end", number(Fraction(random.randint(low, high), bottom))))
            else:
                kind = random.choice(kinds)
                rows.append(random_row(random, place, kind, allowed(random, place, kind, places, last), most))
        try:
            return Web(tuple(rows))
        except Trapped:
            pass


def some_webs(random, count, inner=4, ends=2, mixes=MIXES, **more):
    """So many webs of up to so many inner places, of all mixes of kinds."""
    for at in range(count):
        yield random_web(random, random.randint(0, inner), random.randint(1, ends), mixes[at % len(mixes)], **more)


def answers(rows, right):
    """The solution of linear equations, rows of coefficients, in Python's fractions; None if there is not just one."""
    size = len(rows)
    lines = [list(row) + [value] for row, value in zip(rows, right)]
    for at in range(size):
        pivot = next((k for k in range(at, size) if lines[k][at]), None)
        if pivot is None:
            return None
        lines[at], lines[pivot] = lines[pivot], lines[at]
        lines[at] = [value / lines[at][at] for value in lines[at]]
        for k in range(size):
            if k != at and lines[k][at]:
                lines[k] = [one - lines[k][at] * two for one, two in zip(lines[k], lines[at])]
    return [line[-1] for line in lines]


def options(row):
    """All that one side may choose at an inner place: lists of triples (to, weight, gain)."""
    _, kind, what = row
    if kind == "coin":
        return [[(to, Fraction(1), Fraction(0))] for to in what]
    if kind == "chance":
        return [[(to, fraction(chance), Fraction(0)) for to, chance in what]]
    return [[(to, Fraction(1), -fraction(price))] for to, price in what]


def plans(rows, kinds):
    """All plans of a side that chooses at the places of these kinds, dicts from places to options."""
    chosen = [row for row in rows if row[1] in kinds]
    for way in product(*[options(row) for row in chosen]):
        yield {row[0]: one for row, one in zip(chosen, way)}


def worths_of_plans(rows, ours, theirs):
    """The worths if both hold these plans, a dict; None if from some place no end is come to."""
    places = [row[0] for row in rows]
    matrix, right = [], []
    for place, kind, what in rows:
        line = [Fraction(one == place) for one in places]
        value = fraction(what) if kind == "end" else Fraction(0)
        both = {"ours": [ours], "theirs": [theirs], "coin": [ours, theirs], "end": []}.get(kind)
        if kind == "chance":
            both = [{place: options((place, kind, what))[0]}]
        for one in both:
            for to, weight, gain in one[place]:
                line[places.index(to)] -= weight / len(both)
                value += gain / len(both)
        matrix.append(line)
        right.append(value)
    told = answers(matrix, right)
    return None if told is None else dict(zip(places, told))


def searched(rows):
    """The worths of ending rows: for each place the greatest of the least worths, and the least of the greatest."""
    table = [[worths_of_plans(rows, one, two) for two in plans(rows, ("theirs", "coin"))]
             for one in plans(rows, ("ours", "coin"))]
    low = {row[0]: max(min(told[row[0]] for told in line) for line in table) for row in rows}
    high = {row[0]: min(max(told[row[0]] for told in line) for line in zip(*table)) for row in rows}
    return low, high


def ruled(rows, values):
    """What the rule of the document makes of values, in Python's fractions."""
    told = {}
    for place, kind, what in rows:
        if kind == "end":
            told[place] = fraction(what)
        elif kind == "chance":
            told[place] = sum(values[to] * fraction(chance) for to, chance in what)
        elif kind == "coin":
            told[place] = (max(values[to] for to in what) + min(values[to] for to in what)) / 2
        else:
            brought = [values[to] - fraction(price) for to, price in what]
            told[place] = max(brought) if kind == "ours" else min(brought)
    return told


def table_of(web, told):
    """Numbers of all places as a dict of Python's fractions."""
    return {place: fraction(value) for place, value in zip(web.places, told)}


def size_of_plans(rows):
    """How many pairs of plans there are."""
    size = 1
    for row in rows:
        if row[1] in ("ours", "theirs", "coin"):
            size *= len(row[2]) ** (2 if row[1] == "coin" else 1)
    return size
