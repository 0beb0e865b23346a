"""Draws: numbers with the chances that they come, and what is made of them."""

from placeworths.checks import check_draw, check_draws, check_number, is_draw
from placeworths.errors import InvalidChance, InvalidText, TooMany
from placeworths.exact import ONE, is_fraction, multiplied, plus, total
from placeworths.limits import MOST_PAIRS
from placeworths.weights import capped_mean, excess_mean, gathered, greatest_pairs, mean_of, weight_above
from placeworths.written import number_in, number_text


def mean(draw):
    """The sum of all numbers of the draw, each times its chance."""
    check_draw(draw)
    return mean_of(draw)


def capped(draw, number):
    """The mean of the lesser one of what comes and the number."""
    check_draw(draw)
    check_number(number)
    return capped_mean(draw, number)


def excess(draw, number):
    """The mean of what that which comes is above the number."""
    check_draw(draw)
    check_number(number)
    return excess_mean(draw, number)


def chance_above(draw, number):
    """The chance that what comes is above the number."""
    check_draw(draw)
    check_number(number)
    return weight_above(draw, number)


def chance_of(draw, number):
    """The chance that what comes is the number."""
    check_draw(draw)
    check_number(number)
    return total([chance for comes, chance in draw if comes == number])


def summed(draw, other):
    """The draw of the sum of what comes of both."""
    check_draw(draw)
    check_draw(other)
    pairs = [(plus(one, two), multiplied(chance, by)) for one, chance in draw for two, by in other]
    return small_enough(gathered(pairs))


def greatest_of(draws):
    """The draw of the greatest one of what comes of all draws."""
    check_draws(draws)
    return small_enough(greatest_pairs(draws))


def mixed(draws, chances):
    """The draw of what comes of one of the draws, which one being told by the chances."""
    check_draws(draws)
    if not are_chances(chances, len(draws)):
        raise InvalidChance(chances)
    pairs = [(number, multiplied(chance, by)) for draw, by in zip(draws, chances) for number, chance in draw]
    return small_enough(gathered(pairs))


def moved(draw, number):
    """The draw with the number added to all that comes."""
    check_draw(draw)
    check_number(number)
    return gathered([(plus(comes, number), chance) for comes, chance in draw])


def scaled(draw, number):
    """The draw of all that comes, times the number."""
    check_draw(draw)
    check_number(number)
    return gathered([(multiplied(comes, number), chance) for comes, chance in draw])


def draw_text(draw):
    """The text of a draw: its pairs as NUMBER:CHANCE, parted by spaces."""
    check_draw(draw)
    return " ".join([f"{number_text(number)}:{number_text(chance)}" for number, chance in draw])


def draw_in(text):
    """The draw with this text."""
    if not isinstance(text, str):
        raise InvalidText(text)
    draw = tuple([pair_in(word) for word in text.split(" ")])
    if not is_draw(draw):
        raise InvalidText(text)
    return draw


def pair_in(word):
    """The pair that is written as NUMBER:CHANCE, with None for what is no number."""
    number, _, chance = word.partition(":")
    return (number_in(number), number_in(chance))


def are_chances(value, count):
    """Whether the value is a tuple of so many fractions from 0 on with the sum 1."""
    if not isinstance(value, tuple) or len(value) != count:
        return False
    if not all([is_fraction(chance) for chance in value]):
        return False
    return all([chance[0] >= 0 for chance in value]) and total(value) == ONE


def small_enough(draw):
    """The draw itself; raises TooMany if it has too many pairs."""
    if len(draw) > MOST_PAIRS:
        raise TooMany(MOST_PAIRS)
    return draw
