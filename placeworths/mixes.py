"""Mixes: where a place leads, as a pair of a tuple of pairs (place, weight) and a gain.

What a mix brings is its gain and the worths of its places, each times its weight.
"""

from placeworths.exact import ONE, ZERO, in_order, is_below, multiplied, negative, plus

HALF = (1, 2)


def mix_value(mix, values):
    """What a mix brings if the places have these values."""
    pairs, value = mix
    for place, weight in pairs:
        value = plus(value, values[place] if weight == ONE else multiplied(values[place], weight))
    return value


def halves(mix, other):
    """The mix in which a fair coin tells which one of two mixes comes."""
    pairs = [(place, multiplied(weight, HALF)) for place, weight in [*mix[0], *other[0]]]
    return (tuple(pairs), multiplied(plus(mix[1], other[1]), HALF))


def arrow_mix(to, price):
    """The mix of an arrow to a place at a price."""
    return (((to, ONE),), negative(price))


def arrow_mixes(row):
    """The list of the mixes of all arrows of one of ours, of theirs, of a coin."""
    _, kind, what = row
    if kind == "coin":
        return [arrow_mix(to, ZERO) for to in what]
    return [arrow_mix(to, price) for to, price in what]


def is_better(value, other, upward):
    """Whether the first value is above the second one, or below it where the least one is wanted."""
    return is_below(other, value) if upward else is_below(value, other)


def ruled(row, values):
    """What the rule tells for the place of a row, by these values of all places."""
    _, kind, what = row
    if kind == "end":
        return what
    if kind == "chance":
        return mix_value((what, ZERO), values)
    brought = in_order([mix_value(mix, values) for mix in arrow_mixes(row)])
    if kind == "coin":
        return multiplied(plus(brought[0], brought[-1]), HALF)
    return brought[-1] if kind == "ours" else brought[0]


class Arrows:
    """Mixes of which one is chosen."""

    def __init__(self, options):
        self.options = options

    def best(self, values, upward):
        """The first mix with the greatest value, or with the least one."""
        chosen = self.options[0]
        value = mix_value(chosen, values)
        for mix in self.options[1:]:
            other = mix_value(mix, values)
            if is_better(other, value, upward):
                chosen = mix
                value = other
        return chosen
