"""What the tests of the checker need: the checker's rules once more, by the words of the document, and bent values."""

from fractions import Fraction
from math import gcd

from tests.helpers import fraction

LETTERS = "abcdefghijklmnopqrstuvwxyz"


def is_tuple(value, *sizes):
    return type(value) is tuple and (not sizes or len(value) in sizes)


def is_number(value):
    if not is_tuple(value, 2) or any(type(one) is not int for one in value):
        return False
    return value[1] > 0 and gcd(*value) == 1


def are_all(value, test, *sizes):
    return is_tuple(value, *sizes) and all(test(one) for one in value)


def rising(values):
    return all(low < high for low, high in zip(values, values[1:]))


def is_draw(value):
    if not are_all(value, lambda pair: are_all(pair, is_number, 2), *range(1, 65)):
        return False
    if not rising([fraction(one) for one, _ in value]):
        return False
    chances = [fraction(chance) for _, chance in value]
    return min(chances) > 0 and sum(chances) == 1


def is_place(value):
    return type(value) is str and 1 <= len(value) <= 3 and value[0] in LETTERS and all(
        sign in LETTERS + "0123456789" for sign in value)


def are_rows(value):
    if not are_all(value, lambda row: is_tuple(row, 3) and is_place(row[0]), *range(1, 25)):
        return False
    places = [row[0] for row in value]
    return rising(places) and all(is_told(kind, what, places) for _, kind, what in value)


def is_told(kind, what, places):
    if type(kind) is not str or kind not in ("end", "chance", "ours", "theirs", "coin"):
        return False
    if kind == "end":
        return is_number(what)
    if not is_tuple(what, *range(1, 9)):
        return False
    if kind == "coin":
        what = [(to, (0, 1)) for to in what]
    if not all(is_tuple(arrow, 2) and type(arrow[0]) is str and is_number(arrow[1]) for arrow in what):
        return False
    if not rising([to for to, _ in what]) or not all(to in places for to, _ in what):
        return False
    numbers = [fraction(one) for _, one in what]
    return kind != "chance" or (min(numbers) > 0 and sum(numbers) == 1)


def leads_to(row):
    if row[1] == "end":
        return []
    return list(row[2]) if row[1] == "coin" else [to for to, _ in row[2]]


def is_trap(rows, lot):
    """Whether a list of places is a trap of rows in form."""
    kinds = {row[0]: row for row in rows}
    if not lot or any(place not in kinds or kinds[place][1] == "end" for place in lot):
        return False
    for place in lot:
        inside = [to in lot for to in leads_to(kinds[place])]
        if not (all(inside) if kinds[place][1] == "chance" else any(inside)):
            return False
    return True


def are_ending(rows):
    """Whether no lot of inner places is a trap: places are put away from which the lot must be left."""
    left = [row for row in rows if row[1] != "end"]
    while left:
        lot = [row[0] for row in left]
        kept = []
        for row in left:
            inside = [to in lot for to in leads_to(row)]
            if (all(inside) if row[1] == "chance" else any(inside)):
                kept.append(row)
        if len(kept) == len(left):
            return False
        left = kept
    return True


def are_coin_rows(rows):
    if any(row[1] not in ("end", "coin") for row in rows):
        return False
    near = {row[0] for row in rows if row[1] == "end"}
    for _ in rows:
        near |= {row[0] for row in rows if any(to in near for to in leads_to(row))}
    return len(near) == len(rows)


def rule(row, values):
    """What the rule makes of Python's fractions."""
    _, kind, what = row
    if kind == "end":
        return fraction(what)
    if kind == "chance":
        return sum(values[to] * fraction(chance) for to, chance in what)
    if kind == "coin":
        told = [values[to] for to in what]
        return (max(told) + min(told)) / 2
    told = [values[to] - fraction(price) for to, price in what]
    return max(told) if kind == "ours" else min(told)


def by_rules(claim, paper):
    """Whether the paper shows the claim, by the words of the document."""
    if not is_tuple(claim) or not claim or type(claim[0]) is not str:
        return False
    test = {
        "worth": worth, "at least": at_least, "at most": at_most, "trap": trap, "never less": never_less, "less": less,
        "stop": stop, "strike": strike, "ends": ends,
    }.get(claim[0])
    return test is not None and test(claim[1:], paper)


def of_rows(told, paper):
    """The values that a paper tells, None if these are not rows, one of their places, and a number."""
    if len(told) != 3 or not are_rows(told[0]) or type(told[1]) is not str or not is_number(told[2]):
        return None
    places = [row[0] for row in told[0]]
    if told[1] not in places or not are_all(paper, is_number, len(places)):
        return None
    return dict(zip(places, map(fraction, paper)))


def worth(told, paper):
    values = of_rows(told, paper)
    if values is None or not (are_ending(told[0]) or are_coin_rows(told[0])):
        return False
    return values[told[1]] == fraction(told[2]) and all(rule(row, values) == values[row[0]] for row in told[0])


def at_least(told, paper):
    values = of_rows(told, paper)
    if values is None or not are_ending(told[0]):
        return False
    return values[told[1]] >= fraction(told[2]) and all(rule(row, values) >= values[row[0]] for row in told[0])


def at_most(told, paper):
    values = of_rows(told, paper)
    if values is None or not are_ending(told[0]):
        return False
    return values[told[1]] <= fraction(told[2]) and all(rule(row, values) <= values[row[0]] for row in told[0])


def trap(told, paper):
    if len(told) != 2 or type(paper) is not tuple or paper or not are_rows(told[0]):
        return False
    return are_all(told[1], is_place) and rising(told[1]) and is_trap(told[0], told[1])


def above(draw, z):
    return sum((fraction(chance) for one, chance in draw if fraction(one) > z), Fraction(0))


def never_less(told, paper):
    if len(told) != 2 or not all(map(is_draw, told)):
        return False
    if not are_all(paper, lambda triple: are_all(triple, is_number, 3)):
        return False
    triples = [tuple(map(fraction, triple)) for triple in paper]
    if not rising([triple[:2] for triple in triples]) or any(part <= 0 for _, _, part in triples):
        return False
    for draw, at in ((told[1], 0), (told[0], 1)):
        sums = {fraction(one): fraction(chance) for one, chance in draw}
        if {triple[at] for triple in triples} != set(sums):
            return False
        if any(sum(triple[2] for triple in triples if triple[at] == one) != sums[one] for one in sums):
            return False
    return all(number <= goal for number, goal, _ in triples)


def less(told, paper):
    if len(told) != 2 or not all(map(is_draw, told)) or not is_number(paper):
        return False
    return above(told[0], fraction(paper)) < above(told[1], fraction(paper))


def stop(told, paper):
    if len(told) != 3 or not are_all(told[0], is_draw, *range(1, 7)) or not all(map(is_number, told[1:])):
        return False
    if not are_all(paper, is_number, len(told[0]) + 1) or paper[-1] != told[1] or paper[0] != told[2]:
        return False
    values = [fraction(one) for one in paper]
    return all(values[at] == sum(max(fraction(one), values[at + 1]) * fraction(chance) for one, chance in draw)
               for at, draw in enumerate(told[0]))


def strike(told, paper):
    if len(told) != 2 or type(paper) is not tuple or paper or not is_tuple(told[0], 2) or not is_number(told[1]):
        return False
    draw, price = told[0]
    if not is_draw(draw) or not is_number(price) or price[0] < 0:
        return False
    numbers = [(fraction(one), fraction(chance)) for one, chance in draw]
    if price[0] == 0:
        return fraction(told[1]) == max(numbers)[0]
    return sum(max(one - fraction(told[1]), 0) * chance for one, chance in numbers) == fraction(price)


def ends(told, paper):
    if len(told) != 3 or not are_rows(told[0]) or type(told[1]) is not str:
        return False
    rows = told[0]
    places = [row[0] for row in rows]
    if told[1] not in places or any(row[1] not in ("end", "chance") for row in rows) or not are_ending(rows):
        return False
    last = [row[0] for row in rows if row[1] == "end"]
    if not are_all(told[2], is_number, len(last)):
        return False
    if not are_all(paper, lambda line: are_all(line, is_number, len(last)), len(rows)):
        return False
    table = {place: list(map(fraction, line)) for place, line in zip(places, paper)}
    if table[told[1]] != list(map(fraction, told[2])):
        return False
    for place, kind, what in rows:
        for at, end in enumerate(last):
            due = place == end if kind == "end" else sum(table[to][at] * fraction(chance) for to, chance in what)
            if table[place][at] != due:
                return False
    return True


def bent(value):
    """Values that come of one by bending it at one point."""
    if type(value) is int:
        yield from (value + 1, value - 1, -value, 2 * value, bool(value), str(value), None, (value,))
        yield from ([True] if value == 1 else [False] if value == 0 else [])
    elif type(value) is str:
        yield from ("", value + "a", value[:-1], value.upper(), value.encode(), (value,), None)
        yield from ("a", "x", "end", "chance", "ours", "theirs", "coin", "worth", "at least", "at most", "less", "trap")
    elif type(value) is tuple:
        yield from (list(value), value[:-1], value[1:], value[::-1], (), (value,), None, value + value)
        yield from (value + value[-1:], value + (None,))
        for at, one in enumerate(value):
            for other in bent(one):
                yield value[:at] + (other,) + value[at + 1:]
            for place in range(at):
                yield value[:place] + (one,) + value[place + 1:at] + (value[place],) + value[at + 1:]
