"""Chains: webs of ends and chance places alone, what they come to, and how long this takes."""

from placeworths.checks import are_numbers, check_place
from placeworths.equations import solved
from placeworths.errors import InvalidNumber
from placeworths.exact import ONE, ZERO, multiplied, plus, total
from placeworths.mixes import mix_value
from placeworths.webchecks import check_chain

BEGIN = ""


def ends_from(web, place):
    """The ascending tuple of the pairs (end, chance) of all ends that may be come to."""
    check_chain(web)
    check_place(place, web.places)
    if web.kind(place) == "end":
        return ((place, ONE),)
    many = mean_visits(web, place)
    chances = {}
    for inner, _, what in chance_rows(web):
        for to, chance in what:
            chances[to] = plus(chances.get(to, ZERO), multiplied(many[inner], chance))
    return tuple([(end, chances[end]) for end in web.ends if chances.get(end, ZERO) != ZERO])


def steps_from(web, place):
    """The mean number of moves until an end."""
    check_chain(web)
    check_place(place, web.places)
    many = mean_visits(web, place)
    return total([many[inner] for inner in many])


def visits(web, place):
    """The ascending tuple of the pairs (inner place, mean visits) of all inner places that may be come to."""
    check_chain(web)
    check_place(place, web.places)
    many = mean_visits(web, place)
    return tuple([(inner, many[inner]) for inner in web.places if many.get(inner, ZERO) != ZERO])


def met_chance(web, place, other):
    """The chance that the other place is ever come to from the place."""
    check_chain(web)
    check_place(place, web.places)
    check_place(other, web.places)
    if place == other:
        return ONE
    if web.kind(place) == "end":
        return ZERO
    equations = {inner: dict(what) for inner, _, what in chance_rows(web) if inner != other}
    return solved(equations)[place].get(other, ZERO)


def keeps(web, numbers):
    """Whether these numbers of all places give each chance place the mean of those of its arrows' places."""
    check_chain(web)
    if not are_numbers(numbers, len(web.places)):
        raise InvalidNumber(numbers)
    values = dict(zip(web.places, numbers))
    return all([mix_value((what, ZERO), values) == values[place] for place, _, what in chance_rows(web)])


def chance_rows(web):
    """The rows of the inner places of a chain."""
    return [row for row in web.rows if row[1] == "chance"]


def mean_visits(web, start):
    """The mean visits of all inner places from a start, a dict."""
    rows = chance_rows(web)
    equations = {row[0]: {} for row in rows}
    for place, _, what in rows:
        for to, chance in what:
            if to in equations:
                equations[to][place] = chance
    if start in equations:
        equations[start][BEGIN] = ONE
    told = solved(equations)
    return {place: told[place].get(BEGIN, ZERO) for place in told}
