"""Transfers from one draw to another one, where it is known that there are some."""

from placeworths.exact import ZERO, divided, greater, in_order, is_below, lesser, minus, multiplied, plus, total
from placeworths.weights import mean_of


def lift_triples(sources, targets):
    """The transfer that takes both draws in ascending order, the lesser numbers to the lesser ones."""
    triples = []
    at = 0
    room = targets[0][1]
    for number, weight in sources:
        left = weight
        while left != ZERO:
            if room == ZERO:
                at += 1
                room = targets[at][1]
            part = lesser(left, room)
            triples.append((number, targets[at][0], part))
            left = minus(left, part)
            room = minus(room, part)
    return tuple(triples)


def spread_triples(sources, targets):
    """A spread, for targets that are at least as good to the bold as the sources."""
    floor = raising_floor(sources, mean_of(targets))
    triples = []
    left = list(targets)
    for number, weight in sources:
        taken = stretch(left, weight, greater(number, floor))
        triples.extend([(number, goal, part) for goal, part in taken])
        left = less_taken(left, taken)
    return tuple(triples)


def raising_floor(pairs, wanted):
    """The number c such that the mean of the greater one of c and the draw's number is the wanted one.

    The wanted mean is no less than the draw's own.
    """
    raised = ZERO
    rest = mean_of(pairs)
    for at, (number, weight) in enumerate(pairs):
        raised = plus(raised, weight)
        rest = minus(rest, multiplied(number, weight))
        floor = divided(minus(wanted, rest), raised)
        if at + 1 == len(pairs) or not is_below(pairs[at + 1][0], floor):
            break
    return floor


def stretch(left, size, mean):
    """Of what is left, in ascending order, the stretch of this size that has this mean."""
    goal = multiplied(mean, size)
    starts = stretch_starts(left, size)
    low = 0
    high = len(starts) - 1
    # What a stretch brings never falls as its start rises: so the goal is kept between low and high.
    while high - low > 1:
        middle = (low + high) // 2
        if is_below(goal, mean_of(window(left, starts[middle], size))):
            high = middle
        else:
            low = middle
    less = mean_of(window(left, starts[low], size))
    more = mean_of(window(left, starts[high], size))
    if less == more:
        return window(left, starts[low], size)
    part = divided(minus(goal, less), minus(more, less))
    start = plus(starts[low], multiplied(part, minus(starts[high], starts[low])))
    return window(left, start, size)


def stretch_starts(left, size):
    """All starts at which a stretch of this size begins or ends where a pair begins or ends, ascending."""
    last = minus(total([weight for _, weight in left]), size)
    begin = ZERO
    starts = [ZERO, last]
    for _, weight in left:
        begin = plus(begin, weight)
        starts.extend([begin, minus(begin, size)])
    return [start for start in in_order(starts) if start[0] >= 0 and not is_below(last, start)]


def window(left, start, size):
    """The pairs of what lies between the start and so much behind it, in ascending order."""
    stop = plus(start, size)
    pairs = []
    end = ZERO
    for number, weight in left:
        begin = end
        end = plus(begin, weight)
        part = minus(lesser(end, stop), greater(begin, start))
        if part[0] > 0:
            pairs.append((number, part))
    return pairs


def less_taken(left, taken):
    """What is left behind if this is taken out of it."""
    parts = {number: part for number, part in taken}
    pairs = [(number, minus(weight, parts.get(number, ZERO))) for number, weight in left]
    return [pair for pair in pairs if pair[1] != ZERO]
