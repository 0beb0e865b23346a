"""Unknown webs: ends that may have one of some numbers each, what is sure all the same, and what must be asked."""

from placeworths.boards import Board, rows_board, rows_start
from placeworths.checks import check_place
from placeworths.errors import InvalidPlace, InvalidUnknown, NotAnUnknown, TooMany
from placeworths.exact import are_ascending, is_below, is_fraction
from placeworths.limits import MOST_ASKED, MOST_FILLINGS
from placeworths.webchecks import check_web
from placeworths.webrows import is_ascending, row_of, targets
from placeworths.webs import Web
from placeworths.worths import best_targets

LEAST_NUMBERS = 2
MOST_NUMBERS = 4
UNTOLD = -1


class Unknown:
    """A web, and the numbers that some of its ends may have."""

    def __init__(self, web, choices):
        check_web(web)
        if not are_choices(choices, web.ends):
            raise InvalidUnknown(choices)
        count = 1
        for _, numbers in choices:
            count = count * len(numbers)
        if count > MOST_FILLINGS:
            raise TooMany(MOST_FILLINGS)
        self._web = web
        self._choices = choices
        self._fillings = all_ways([numbers for _, numbers in choices])

    @property
    def web(self):
        """The web."""
        return self._web

    @property
    def choices(self):
        """The pairs of an end and the numbers that it may have."""
        return self._choices

    def __len__(self):
        return len(self._fillings)

    def __eq__(self, other):
        return isinstance(other, Unknown) and self._web == other._web and self._choices == other._choices


def filled(unknown, numbers):
    """The filling with these numbers, one of each choice."""
    check_unknown(unknown)
    if not is_filling(numbers, unknown.choices):
        raise InvalidUnknown(numbers)
    told = {end: number for (end, _), number in zip(unknown.choices, numbers)}
    return Web(tuple([(row[0], row[1], told.get(row[0], row[2])) for row in unknown.web.rows]))


def ranges(unknown):
    """The tuple of triples (place, least worth, greatest worth) of all places."""
    check_unknown(unknown)
    lows = tuple([numbers[0] for _, numbers in unknown.choices])
    highs = tuple([numbers[-1] for _, numbers in unknown.choices])
    least, greatest = filling_worths(unknown, [lows, highs])
    return tuple([(place, least[place], greatest[place]) for place in unknown.web.places])


def sure_best(unknown):
    """The tuple of the pairs (place, places to which surely best arrows lead) of all places of ours and theirs."""
    check_unknown(unknown)
    rows = [row for row in unknown.web.rows if row[1] in ("ours", "theirs")]
    worths = filling_worths(unknown, unknown._fillings)
    told = []
    for row in rows:
        sure = targets(row)
        for values in worths:
            best = best_targets(row, values, row[1] == "ours")
            sure = [to for to in sure if to in best]
        told.append((row[0], tuple(sure)))
    return tuple(told)


def sure_order(unknown):
    """The ascending tuple of the pairs of unlike places of which the first one is never worth less."""
    check_unknown(unknown)
    places = unknown.web.places
    pairs = [(place, other) for place in places for other in places if place != other]
    for values in filling_worths(unknown, unknown._fillings):
        pairs = [(place, other) for place, other in pairs if not is_below(values[place], values[other])]
    return tuple(pairs)


def asks(unknown, place):
    """The least number of questions behind which one always knows a best arrow of the place."""
    check_unknown(unknown)
    check_place(place, unknown.web.places)
    row = row_of(unknown.web.rows, place)
    if row[1] not in ("ours", "theirs"):
        raise InvalidPlace(place)
    if len(unknown) > MOST_ASKED:
        raise TooMany(MOST_ASKED)
    found = [best_targets(row, values, row[1] == "ours") for values in filling_worths(unknown, unknown._fillings)]
    return fewest_asks([len(numbers) for _, numbers in unknown.choices], found)


def check_unknown(value):
    """Raises NotAnUnknown if the value is no unknown web."""
    if not isinstance(value, Unknown):
        raise NotAnUnknown(value)


def are_choices(value, ends):
    """Whether the value tells numbers of some of these ends, one end at least."""
    if not isinstance(value, tuple) or not value or not all([is_choice(pair, ends) for pair in value]):
        return False
    return is_ascending([pair[0] for pair in value])


def is_choice(value, ends):
    """Whether the value is a pair of one of these ends and two to four ascending numbers."""
    if not isinstance(value, tuple) or len(value) != 2:
        return False
    end, numbers = value
    if not isinstance(end, str) or end not in ends or not isinstance(numbers, tuple):
        return False
    if not LEAST_NUMBERS <= len(numbers) <= MOST_NUMBERS or not all([is_fraction(number) for number in numbers]):
        return False
    return are_ascending(numbers)


def is_filling(value, choices):
    """Whether the value is a tuple with one of the numbers of each choice, in their order."""
    if not isinstance(value, tuple) or len(value) != len(choices):
        return False
    return all([is_fraction(number) and number in numbers for number, (_, numbers) in zip(value, choices)])


def all_ways(lists):
    """The list of all tuples with one element of each list, ascending by the lists' own orders."""
    ways = [()]
    for some in lists:
        ways = [(*way, one) for way in ways for one in some]
    return ways


def filling_worths(unknown, fillings):
    """The list of the worths, dicts, with each one of some tuples of numbers."""
    rows = unknown.web.rows
    plain = rows_board(rows)
    ends = [end for end, _ in unknown.choices]
    # What was best with the last numbers is mostly best, or nearly so, with the next ones.
    high, low = rows_start(rows)
    told = []
    for numbers in fillings:
        board = Board({**plain.numbers, **dict(zip(ends, numbers))}, plain.chances, plain.highs, plain.lows)
        values, high, low = board.settled(high, low)
        told.append(values)
    return told


def fewest_asks(sizes, found):
    """The least number of questions behind which an arrow is known that is best whatever the rest is.

    The sizes tell how many numbers each end may have; best arrows are told for each way to choose, in their order.
    """
    best = dict(zip(all_ways([list(range(size)) for size in sizes]), found))
    fewest = {}
    # UNTOLD comes last in each list: so all that can be told of a state has been looked at ahead of it.
    for state in all_ways([[*list(range(size)), UNTOLD] for size in sizes]):
        untold = [at for at, index in enumerate(state) if index == UNTOLD]
        if untold:
            best[state] = in_all([best[one] for one in answered_states(state, untold[0], sizes)])
        if best[state]:
            fewest[state] = 0
        else:
            worst = [max([fewest[one] for one in answered_states(state, at, sizes)]) for at in untold]
            fewest[state] = 1 + min(worst)
    return fewest[tuple([UNTOLD for _ in sizes])]


def answered_states(state, at, sizes):
    """The list of what may be known if the end at this index is asked."""
    return [(*state[:at], index, *state[at + 1:]) for index in range(sizes[at])]


def in_all(rows):
    """The tuple of what is in each one of some rows."""
    return tuple([one for one in rows[0] if all([one in row for row in rows])])
