"""What the tests of several modules need: fractions of another making, odd values, checks of whole signatures."""

from fractions import Fraction
from itertools import product
from random import Random


def fraction(number):
    """A pair (n, d) as one of Python's own fractions."""
    return Fraction(number[0], number[1])


def number(value):
    """One of Python's fractions, or an integer, as a pair (n, d)."""
    value = Fraction(value)
    return (value.numerator, value.denominator)


def draw(*pairs):
    """A draw of pairs (number, chance), given as integers, fractions or texts."""
    return tuple((number(value), number(chance)) for value, chance in pairs)


def even(*values):
    """The draw in which each one of ascending values has the same chance."""
    return draw(*[(value, Fraction(1, len(values))) for value in values])


def table(pairs):
    """A draw as a list of pairs of Python's fractions."""
    return [(fraction(value), fraction(chance)) for value, chance in pairs]


def outcomes(draws):
    """All ways in which draws, taken apart, can come: pairs (tuple of numbers, chance)."""
    told = []
    for way in product(*[table(one) for one in draws]):
        chance = Fraction(1)
        for _, part in way:
            chance *= part
        told.append((tuple(value for value, _ in way), chance))
    return told


def made_of(ways):
    """The draw with these pairs (number, chance) of Python's fractions, alike ones put together."""
    chances = {}
    for value, chance in ways:
        chances[value] = chances.get(value, Fraction(0)) + chance
    return tuple((number(value), number(chances[value])) for value in sorted(chances) if chances[value])


def random_draw(random, most=4, low=-4, high=8, bottoms=(1, 2, 3)):
    """Some draw of small numbers."""
    values = sorted({Fraction(random.randint(low, high), random.choice(bottoms))
                     for _ in range(random.randint(1, most))})
    parts = [random.randint(1, 4) for _ in values]
    return draw(*[(value, Fraction(part, sum(parts))) for value, part in zip(values, parts)])


def random_number(random, low=-5, high=9):
    """Some small number."""
    return number(Fraction(random.randint(2 * low, 2 * high), random.choice((1, 2, 3))))


def some_random(seed):
    """A source of numbers that always tells the same."""
    return Random(seed)


class Nasty:
    """A value that breaks whoever compares it, hashes it or asks for its length."""

    __hash__ = None

    def __eq__(self, other):
        raise RuntimeError("compared")

    def __len__(self):
        raise RuntimeError("measured")

    def __iter__(self):
        raise RuntimeError("iterated")

    def __bool__(self):
        raise RuntimeError("tested")


def odd_values():
    """Values of many kinds, none of which is in any form but that of a place, an index or an empty company."""
    return [
        None, True, False, 2, -1, 10 ** 50, "", " ", "A", "a b", "0/1", "1/2", "0/1:1/2", b"", b"a", b"1/2",
        (None,), (0,), (0, 0), (1, 2, 3), ((),), ((((((),),),),),), [], [0, 1], [[0, 1], [1, 1]], {}, {"a": 1},
        {(0, 1): (1, 1)}, set(), {1, 2}, frozenset(), object(), object, Nasty, Nasty(), (Nasty(),), len, odd_values,
        range(2), iter(()), (value for value in ()), ValueError("x"), Ellipsis, NotImplemented, Fraction(1, 2),
        Fraction(3), bytearray(b"a"), memoryview(b"a"), complex(1, 1), ("a",), ("a", "b"),
    ]


def wrong_numbers():
    """Values that are no numbers."""
    return odd_values() + [
        (), 0, 1, (1, 0), (0, 0), (1, -1), (-1, -2), (0, 2), (2, 4), (-2, 4), (6, 3), (True, 1), (False, 1), (1, True),
        (0, True), (None, 1), (1, None), ("1", "2"), (1, "2"), ("1", 2), (1,), (1, 2, 1), [1, 2], ((1, 2),),
        ((1, 1), (1, 1)), (Fraction(1), 1), (1, Fraction(2)), (Nasty(), 1), (1, Nasty()), (b"1", 1), "1", "1/1",
    ]


def wrong_draws():
    """Values that are no draws."""
    one, half = (1, 1), (1, 2)
    pairs = [((k, 1), (1, 65)) for k in range(65)]
    wrongs = odd_values() + [
        (), 0, 1, one, half, [((0, 1), one)], ([(0, 1), one],), (([0, 1], one),), (((0, 1), [1, 1]),), {(0, 1): one},
        (((0, 1),),), (((0, 1), one, one),), ((0, 1), one), (((0, 1), half),), (((0, 1), (3, 2)),),
        (((0, 1), one), ((1, 1), (0, 1))), (((0, 1), (0, 1)),), (((0, 1), (3, 2)), ((1, 1), (-1, 2))),
        (((0, 1), half), ((1, 1), half), ((2, 1), half)), (((0, 1), half), ((1, 1), (1, 3))),
        (((1, 1), half), ((0, 1), half)), (((0, 1), half), ((0, 1), half)), (((1, 2), half), ((1, 3), half)),
        (((0, 1), (2, 4)), ((1, 1), half)), (((0, 2), half), ((1, 1), half)), (((2, 4), one),), (((1, -2), one),),
        (((0, 1), (True, 1)),), (((0, 1), (1, True)),), (((True, 1), one),), (((0, True), one),), (((0, 1), True),),
        (((0, 1), 1),), ((0, one),), (("0/1", one),), (((0, 1), "1/1"),), ((None, one),), (((0, 1), None),), (None,),
        (((0, 1), half), None), (((0, 1), half), ((1, 1), half), ()), "0/1:1/1", tuple(pairs), (Nasty(), Nasty()),
        ((Nasty(), one),), (((0, 1), Nasty()),), (((1, 0), one),), (((0, 1), (-1, -1)),), (((0, 1), (-1, 1)),),
    ]
    for value in wrong_numbers():
        wrongs += [((value, one),), (((0, 1), value),)]
    return wrongs


def wrong_rows():
    """Values that are no tuples of one to six draws."""
    coin = even(0, 4)
    wrongs = odd_values() + [(), coin, [coin], (coin, [coin]), (coin, None), (coin,) * 7, (coin, ()), (coin, (coin,))]
    return wrongs + [(coin, wrong) for wrong in wrong_draws()] + [(wrong,) for wrong in wrong_draws()]


def points(*draws):
    """Numbers below, at, between and above all numbers of draws."""
    values = sorted({value for one in draws for value, _ in table(one)})
    between = [(low + high) / 2 for low, high in zip(values, values[1:])]
    return [number(value) for value in [values[0] - 1, *values, *between, values[-1] + Fraction(1, 3)]]


def edits(text, signs):
    """All texts that come of one by leaving out a sign, putting one in or exchanging one."""
    for at in range(len(text) + 1):
        yield text[:at] + text[at + 1:]
        for sign in signs:
            yield text[:at] + sign + text[at:]
            yield text[:at] + sign + text[at + 1:]


def raised(case, call, error):
    """The error that a call raises, which is of just this class."""
    with case.assertRaises(error) as caught:
        call()
    case.assertIs(type(caught.exception), error)
    return caught.exception


def check_given(case, call, error, given):
    """Checks that a call raises just this error, with the very value that was given."""
    found = raised(case, call, error)
    case.assertIs(found.given, given)
    case.assertEqual(list(vars(found)), ["given"])


def check_signature(case, function, parts):
    """Checks the errors of a function, parts being tuples (name, good value, wrong values, error).

    Each wrong value is given in its place alone; then wrong ones are given in several places, by place and
    by name, and the first one's error must come.
    """
    names = [part[0] for part in parts]
    goods = [part[1] for part in parts]
    by_place, by_name = function(*goods), function(**dict(list(zip(names, goods))[::-1]))
    case.assertIs(type(by_place), type(by_name))
    case.assertEqual(by_place, by_name)
    for at, (name, _, wrongs, error) in enumerate(parts):
        for wrong in wrongs:
            values = goods[:at] + [wrong] + goods[at + 1:]
            with case.subTest(function=function.__name__, name=name, wrong=str(type(wrong))):
                check_given(case, lambda: function(*values), error, wrong)
    for marks in product((False, True), repeat=len(parts)):
        if any(marks):
            values = [part[2][-1] if mark else part[1] for part, mark in zip(parts, marks)]
            first = marks.index(True)
            by_name = dict(list(zip(names, values))[::-1])
            with case.subTest(function=function.__name__, marks=marks):
                check_given(case, lambda: function(*values), parts[first][3], values[first])
                check_given(case, lambda: function(**by_name), parts[first][3], values[first])
