"""Certificates: claims for the checker with papers that it accepts."""

from placeworths.checks import check_number, check_place
from placeworths.equations import solved
from placeworths.errors import NotEnding
from placeworths.exact import ONE, ZERO, is_below
from placeworths.looks import strike
from placeworths.orders import less_at, lift
from placeworths.stops import worths_from
from placeworths.webchecks import check_chain, check_web
from placeworths.worths import worths


def certify_worth(web, place):
    """The worth of a place, shown by those of all places."""
    check_web(web)
    check_place(place, web.places)
    paper = worths(web)
    return (("worth", web.rows, place, told_of(web, paper, place)), paper)


def certify_at_least(web, place, number):
    """That the worth of a place is at least the number, None if it is not so."""
    paper = bounding_worths(web, place, number)
    if is_below(told_of(web, paper, place), number):
        return None
    return (("at least", web.rows, place, number), paper)


def certify_at_most(web, place, number):
    """That the worth of a place is at most the number, None if it is not so."""
    paper = bounding_worths(web, place, number)
    if is_below(number, told_of(web, paper, place)):
        return None
    return (("at most", web.rows, place, number), paper)


def certify_draws(draw, other):
    """That the draw is never less than the other one, or that it is not so."""
    triples = lift(draw, other)
    if triples is None:
        return (("less", draw, other), less_at(draw, other))
    return (("never less", draw, other), triples)


def certify_stop(row, rest):
    """The worth of a row with this rest, shown by those from all indexes."""
    paper = worths_from(row, rest)
    return (("stop", row, rest, paper[0]), paper)


def certify_strike(box):
    """The strike of a box."""
    return (("strike", box, strike(box)), ())


def certify_ends(web, place):
    """The chances to come from a place to each end, shown by those of all places."""
    check_web(web)
    check_place(place, web.places)
    check_chain(web)
    inner = solved({row[0]: dict(row[2]) for row in web.rows if row[1] == "chance"})
    told = {end: {end: ONE} for end in web.ends}
    chances = {**told, **inner}
    paper = tuple([tuple([chances[one].get(end, ZERO) for end in web.ends]) for one in web.places])
    return (("ends", web.rows, place, told_of(web, paper, place)), paper)


def bounding_worths(web, place, number):
    """The worths of an ending web; raises what is due if one of these is not in form, or if the web is not ending."""
    check_web(web)
    check_place(place, web.places)
    check_number(number)
    if not web.is_ending:
        raise NotEnding()
    return worths(web)


def told_of(web, paper, place):
    """What a paper of all places tells of one."""
    return paper[web.places.index(place)]
