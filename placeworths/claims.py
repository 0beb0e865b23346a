"""Claims of books: tuples of a word, the name of a web, and what is claimed of it."""

from placeworths.boards import rows_worths
from placeworths.checks import is_part
from placeworths.errors import InvalidClaim, InvalidName
from placeworths.exact import ONE, is_below, is_fraction, minus
from placeworths.webchecks import are_coins, are_parts
from placeworths.webrows import LETTERS, is_place, row_of
from placeworths.worths import best_targets

MOST_LETTERS = 8
CLAIM_SIZES = {"between": 5, "above": 4, "best": 4, "ending": 2, "wins": 4}


def is_name(value):
    """Whether the value has the form of a name."""
    if not isinstance(value, str) or not 1 <= len(value) <= MOST_LETTERS:
        return False
    return all([letter in LETTERS for letter in value])


def check_name(value):
    """Raises InvalidName if the value is no name."""
    if not is_name(value):
        raise InvalidName(value)


def is_claim(value):
    """Whether the value has the form of a claim, whatever stands in the place of the name."""
    if not isinstance(value, tuple) or not value or not isinstance(value[0], str):
        return False
    word = value[0]
    if word not in CLAIM_SIZES or len(value) != CLAIM_SIZES[word]:
        return False
    if word == "between":
        return is_place(value[2]) and is_fraction(value[3]) and is_fraction(value[4])
    if word == "wins":
        return is_place(value[2]) and is_part(value[3])
    return all([is_place(one) for one in value[2:]])


def check_claim(value):
    """Raises InvalidClaim if the value has the form of no claim."""
    if not is_claim(value):
        raise InvalidClaim(value)


def first_broken(claims, name, web):
    """The index of the first claim of this name that does not hold for the web, None if all hold."""
    indexes = [index for index, claim in enumerate(claims) if claim[1] == name]
    values = rows_worths(web.rows) if indexes else {}
    for index in indexes:
        if not holds(claims[index], web, values):
            return index
    return None


def holds(claim, web, values):
    """Whether a claim holds for the web of its name, in which all places have these worths."""
    word = claim[0]
    if word == "ending":
        return web.is_ending
    place = claim[2]
    if place not in values:
        return False
    if word == "between":
        return not is_below(values[place], claim[3]) and not is_below(claim[4], values[place])
    if word == "above":
        return claim[3] in values and not is_below(values[place], values[claim[3]])
    if word == "best":
        return is_best(web, place, claim[3], values)
    needed = minus(ONE, values[place])
    return are_coins(web.rows) and are_parts(web.rows) and is_below(needed, claim[3])


def is_best(web, place, to, values):
    """Whether the place is one of ours or of theirs that has a best arrow to the other one."""
    row = row_of(web.rows, place)
    if row[1] not in ("ours", "theirs"):
        return False
    return to in best_targets(row, values, row[1] == "ours")
