"""The checker: whether a paper shows that a claim is true. It looks at rules alone, and searches for nothing."""

from placeworths.checks import are_numbers, is_box, is_draw, is_row
from placeworths.exact import ONE, ZERO, is_below, is_fraction
from placeworths.mixes import mix_value, ruled
from placeworths.webrows import are_coin_rows, are_rows, are_targets, can_stay, trap_of
from placeworths.weights import excess_mean, gathered, raised_mean, weight_above


def shows_worth(told, paper):
    """Whether the numbers of the paper keep the rule, which the worths alone do, and tell the place's number."""
    if not is_of_place(told) or trap_of(told[0]) and not are_coin_rows(told[0]):
        return False
    rows, place, number = told
    if not are_numbers(paper, len(rows)):
        return False
    values = values_of(rows, paper)
    return values[place] == number and all([values[row[0]] == ruled(row, values) for row in rows])


def shows_at_least(told, paper):
    """Whether no number of the paper is above what the rule tells, nor the place's below the claimed one."""
    if not is_bound(told, paper):
        return False
    rows, place, number = told
    values = values_of(rows, paper)
    if is_below(values[place], number):
        return False
    return not any([is_below(ruled(row, values), values[row[0]]) for row in rows])


def shows_at_most(told, paper):
    """Whether no number of the paper is below what the rule tells, nor the place's above the claimed one."""
    if not is_bound(told, paper):
        return False
    rows, place, number = told
    values = values_of(rows, paper)
    if is_below(number, values[place]):
        return False
    return not any([is_below(values[row[0]], ruled(row, values)) for row in rows])


def shows_trap(told, paper):
    """Whether the lot is a trap; there is nothing more to show."""
    if len(told) != 2 or not is_nothing(paper) or not are_rows(told[0]):
        return False
    rows, lot = told
    inner = [row[0] for row in rows if row[1] != "end"]
    if not isinstance(lot, tuple) or not lot or not are_targets(lot, inner):
        return False
    return all([can_stay(row, lot) for row in rows if row[0] in lot])


def shows_never_less(told, paper):
    """Whether the paper is a lift from the second draw to the first one."""
    if not are_two_draws(told) or not is_transfer(paper, told[1], told[0]):
        return False
    return not any([is_below(goal, number) for number, goal, _ in paper])


def shows_less(told, paper):
    """Whether the paper is a number that the first draw has a lesser chance to be above."""
    if not are_two_draws(told) or not is_fraction(paper):
        return False
    return is_below(weight_above(told[0], paper), weight_above(told[1], paper))


def shows_stop(told, paper):
    """Whether the paper tells the worths from all indexes, from the rest at last to the claimed one ahead."""
    if len(told) != 3 or not is_row(told[0]) or not is_fraction(told[1]) or not is_fraction(told[2]):
        return False
    line, rest, number = told
    if not are_numbers(paper, len(line) + 1) or paper[0] != number or paper[-1] != rest:
        return False
    return all([here == raised_mean(draw, behind) for draw, here, behind in zip(line, paper, paper[1:])])


def shows_strike(told, paper):
    """Whether the number is the box's strike; there is nothing more to show."""
    if len(told) != 2 or not is_nothing(paper) or not is_box(told[0]) or not is_fraction(told[1]):
        return False
    (draw, price), number = told
    if price == ZERO:
        return number == draw[-1][0]
    return excess_mean(draw, number) == price


def shows_ends(told, paper):
    """Whether the chances of the paper keep the rule, for each end as if it had the number 1 and the others 0."""
    if len(told) != 3 or not are_rows(told[0]) or not is_place_of(told[1], told[0]):
        return False
    rows, place, chances = told
    if not all([row[1] in ("end", "chance") for row in rows]) or trap_of(rows):
        return False
    ends = [row[0] for row in rows if row[1] == "end"]
    if not are_numbers(chances, len(ends)) or not isinstance(paper, tuple) or len(paper) != len(rows):
        return False
    if not all([are_numbers(line, len(ends)) for line in paper]):
        return False
    told_chances = values_of(rows, paper)
    return told_chances[place] == chances and all([keeps_chances(row, told_chances, ends) for row in rows])


def is_of_place(told):
    """Whether these are three: rows in the form of a web, one of their places, and a number."""
    if len(told) != 3 or not are_rows(told[0]):
        return False
    return is_place_of(told[1], told[0]) and is_fraction(told[2])


def is_place_of(value, rows):
    """Whether the value is a place of rows."""
    return isinstance(value, str) and value in [row[0] for row in rows]


def is_bound(told, paper):
    """Whether these are ending rows, one of their places, and a number, and the paper has a number for each place."""
    if not is_of_place(told) or trap_of(told[0]):
        return False
    return are_numbers(paper, len(told[0]))


def is_nothing(paper):
    """Whether the paper is the empty tuple."""
    return isinstance(paper, tuple) and not paper


def are_two_draws(told):
    """Whether these are two draws."""
    return len(told) == 2 and is_draw(told[0]) and is_draw(told[1])


def is_transfer(value, source, target):
    """Whether the value is a transfer from the first draw to the second one."""
    if not isinstance(value, tuple) or not all([are_numbers(triple, 3) and triple[2][0] > 0 for triple in value]):
        return False
    if not all([is_ahead(triple, after) for triple, after in zip(value, value[1:])]):
        return False
    taken = gathered([(number, part) for number, _, part in value])
    return taken == source and gathered([(goal, part) for _, goal, part in value]) == target


def is_ahead(triple, other):
    """Whether the first triple stands ahead of the other one, by their first numbers, then by their second ones."""
    if triple[0] == other[0]:
        return is_below(triple[1], other[1])
    return is_below(triple[0], other[0])


def values_of(rows, told):
    """A dict from the places of rows to what is told of them, in their order."""
    return {row[0]: one for row, one in zip(rows, told)}


def keeps_chances(row, chances, ends):
    """Whether the chances to come to the ends are, at this place, what the rule makes of those of all places."""
    place, kind, what = row
    for index, end in enumerate(ends):
        values = {one: chances[one][index] for one in chances}
        if kind == "end":
            due = ONE if place == end else ZERO
        else:
            due = mix_value((what, ZERO), values)
        if values[place] != due:
            return False
    return True


CHECKS = {
    "worth": shows_worth, "at least": shows_at_least, "at most": shows_at_most, "trap": shows_trap,
    "never less": shows_never_less, "less": shows_less, "stop": shows_stop, "strike": shows_strike,
    "ends": shows_ends,
}


def accepts(claim, paper):
    """Whether this is a claim for the checker, and the paper is one for it."""
    if not isinstance(claim, tuple) or not claim or not isinstance(claim[0], str):
        return False
    if claim[0] not in CHECKS:
        return False
    shows = CHECKS[claim[0]]
    return shows(claim[1:], paper)
