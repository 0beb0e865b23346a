"""Rows of draws and companies of boxes made into webs, with what they are worth at the place "a"."""

from placeworths.checks import check_company, check_number, check_row
from placeworths.errors import TooMany
from placeworths.exact import ONE, ZERO, greater, in_order
from placeworths.limits import MOST_ARROWS, MOST_PLACES
from placeworths.webrows import LETTERS
from placeworths.webs import Web
from placeworths.weights import gathered, greatest_pairs


def row_web(row, rest):
    """A web in which the place "a" has the worth of the row with this rest."""
    check_row(row)
    check_number(rest)
    check_sizes(row)
    draws = [("draw", index) for index in range(len(row))]
    seen = [("seen", index, number) for index, draw in enumerate(row) for number, _ in draw]
    unlike = in_order([rest, *[thing[2] for thing in seen]])
    ends = [("end", number) for number in unlike]
    places = place_names([*draws, *seen, *ends])
    ways_on = [*draws[1:], ("end", rest)]
    rows = [draw_row(index, draw, places) for index, draw in enumerate(row)]
    rows.extend([seen_row(thing, ways_on[thing[1]], places) for thing in seen])
    return Web(tuple([*rows, *end_rows(ends, places)]))


def company_web(company, floor):
    """A web in which the place "a" has the company worth at this floor."""
    check_company(company)
    check_number(floor)
    draws = [draw for draw, _ in company]
    check_sizes(draws)
    standings = [("standing", lot, had) for lot in all_lots(len(company)) for had in greatest_had(draws, lot, floor)]
    closed = [
        ("closed", lot, had, index) for _, lot, had in standings for index in range(len(company)) if index not in lot
    ]
    unlike = in_order([standing[2] for standing in standings])
    ends = [("end", number) for number in unlike]
    places = place_names([*standings, *closed, *ends])
    rows = [standing_row(standing, company, places) for standing in standings]
    rows.extend([look_row(look, draws, places) for look in closed])
    return Web(tuple([*rows, *end_rows(ends, places)]))


def check_sizes(draws):
    """Raises TooMany if a draw has more pairs than a place may have arrows."""
    if any([len(draw) > MOST_ARROWS for draw in draws]):
        raise TooMany(MOST_ARROWS)


def place_names(things):
    """The places of all things, in their order, the first one being "a"; raises TooMany if there are too many."""
    if len(things) > MOST_PLACES:
        raise TooMany(MOST_PLACES)
    return {thing: LETTERS[at] for at, thing in enumerate(things)}


def all_lots(count):
    """The list of all ascending tuples of indexes of so many things, the empty one first."""
    lots = [()]
    for index in range(count):
        lots = [*lots, *[(*lot, index) for lot in lots]]
    return lots


def greatest_had(draws, lot, floor):
    """The ascending list of all that may be the greatest number had if the boxes of a lot are open."""
    return [had for had, _ in greatest_pairs([*[draws[index] for index in lot], ((floor, ONE),)])]


def draw_row(index, draw, places):
    """The row of a draw: chance tells the number that is seen."""
    arrows = [(places[("seen", index, number)], chance) for number, chance in draw]
    return (places[("draw", index)], "chance", tuple(arrows))


def seen_row(seen, way_on, places):
    """The row of a number that is seen: it is taken, or passed."""
    # The last draw may show the rest itself: then both ways lead to one end, by one arrow.
    return ours_row(places[seen], {places[("end", seen[2])]: ZERO, places[way_on]: ZERO})


def standing_row(standing, company, places):
    """The row of a standing: one has the greatest number, or opens one of the closed boxes at its price."""
    _, lot, had = standing
    ways = {places[("end", had)]: ZERO}
    for index, (_, price) in enumerate(company):
        if index not in lot:
            ways[places[("closed", lot, had, index)]] = price
    return ours_row(places[standing], ways)


def look_row(look, draws, places):
    """The row of a closed box that is opened: chance tells the standing behind it."""
    _, lot, had, index = look
    behind = tuple(sorted([*lot, index]))
    raised = gathered([(greater(number, had), chance) for number, chance in draws[index]])
    arrows = [(places[("standing", behind, number)], chance) for number, chance in raised]
    return (places[look], "chance", tuple(arrows))


def ours_row(place, ways):
    """The row of one of ours, the ways being a dict from places to prices."""
    return (place, "ours", tuple([(to, ways[to]) for to in sorted(list(ways))]))


def end_rows(ends, places):
    """The rows of ends, which are pairs of a word and a number."""
    return [(places[end], "end", end[1]) for end in ends]
