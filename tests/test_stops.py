import unittest
from fractions import Fraction
from functools import lru_cache
from itertools import permutations, product

from placeworths.draws import excess
from placeworths.errors import InvalidIndex, InvalidNumber, InvalidRow, TooMany
from placeworths.stops import (
    bar_worth, bars, best_orders, half_bar, picks, prophet, recall_worth, should_take, worths_from,
)
from tests.helpers import (
    check_given, check_signature, draw, even, fraction, number, odd_values, outcomes, points, raised, random_draw,
    random_number, some_random, table, wrong_numbers, wrong_rows,
)

COIN = even(0, 4)
SURE = draw((2, 1))
THIRD = draw((0, "2/3"), (9, "1/3"))
WRONG_PRICES = wrong_numbers() + [(-1, 1), (-1, 2), (-(10 ** 30), 7)]
NOT_TWO = [value for value in odd_values() if type(value) is not int or value != 2]
WRONG_INDEXES = NOT_TWO + [3, -1, -3, (0, 1), (), "0", [0]]
WRONG_TIMES = NOT_TWO + [0, 4, -2, (1, 1), (2, 1), (), "1", [1]]


def random_row(random, most=3, pairs=3, low=-4, high=8):
    return tuple(random_draw(random, pairs, low, high) for _ in range(random.randint(1, most)))


def mean(ways):
    return sum(value * chance for value, chance in ways)


def best_by_history(row, rest, at=0, seen=()):
    """The greatest mean over all ways of taking, which may go by all that has been seen."""
    if at == len(row):
        return fraction(rest)
    return mean([
        (max(value, best_by_history(row, rest, at + 1, seen + (value,))), chance) for value, chance in table(row[at])
    ])


def all_ways_to_take(row):
    """All ways of taking: dicts that tell for each history of numbers whether the last one is taken."""
    histories = []
    for at in range(len(row)):
        histories += [tuple(way) for way in product(*[[value for value, _ in table(one)] for one in row[:at + 1]])]
    for marks in product((False, True), repeat=len(histories)):
        yield dict(zip(histories, marks))


def mean_of_way(row, rest, way):
    """The mean of what is had by one way of taking."""
    def had(numbers):
        for at in range(len(numbers)):
            if way[numbers[:at + 1]]:
                return numbers[at]
        return fraction(rest)
    return mean([(had(numbers), chance) for numbers, chance in outcomes(row)])


class Signatures(unittest.TestCase):
    def setUp(self):
        self.row = ("row", (COIN, THIRD, SURE), wrong_rows(), InvalidRow)
        self.rest = ("rest", (1, 2), wrong_numbers(), InvalidNumber)

    def test_rows_and_rests(self):
        for function in (worths_from, bars, prophet, best_orders):
            check_signature(self, function, [self.row, self.rest])
        check_signature(self, half_bar, [self.row])

    def test_indexes_and_numbers(self):
        index = ("index", 2, WRONG_INDEXES, InvalidIndex)
        asked = ("number", (1, 3), wrong_numbers(), InvalidNumber)
        check_signature(self, should_take, [self.row, self.rest, index, asked])
        check_signature(self, bar_worth, [self.row, self.rest, ("bar", (1, 3), wrong_numbers(), InvalidNumber)])

    def test_prices_and_times(self):
        check_signature(self, recall_worth, [self.row, self.rest, ("price", (1, 3), WRONG_PRICES, InvalidNumber)])
        check_signature(self, picks, [self.row, ("times", 2, WRONG_TIMES, InvalidNumber)])

    def test_rows_of_one_and_of_six_draws_are_rows_and_of_seven_are_none(self):
        self.assertEqual(worths_from((SURE,), (3, 1)), ((3, 1), (3, 1)))
        self.assertEqual(worths_from((SURE,) * 6, (0, 1)), ((2, 1),) * 6 + ((0, 1),))
        seven = (SURE,) * 7
        for call in (lambda: worths_from(seven, (0, 1)), lambda: half_bar(seven), lambda: picks(seven, 1)):
            check_given(self, call, InvalidRow, seven)

    def test_half_bars_are_for_numbers_from_0_on(self):
        for row in ((draw((-1, 1)),), (COIN, draw((-3, "1/9"), (5, "8/9"))), (draw(("-1/2", "1/2"), (3, "1/2")), COIN)):
            check_given(self, lambda: half_bar(row), InvalidRow, row)

    def test_times_up_to_the_number_of_draws(self):
        self.assertEqual(picks((SURE,), 1), (2, 1))
        check_given(self, lambda: picks((SURE,), 2), InvalidNumber, 2)
        check_given(self, lambda: picks((SURE,) * 6, 7), InvalidNumber, 7)
        self.assertEqual(picks((SURE,) * 6, 6), (12, 1))

    def test_indexes_up_to_the_number_of_draws(self):
        self.assertIs(should_take((SURE,), (3, 1), 0, (3, 1)), True)
        check_given(self, lambda: should_take((SURE,), (3, 1), 1, (3, 1)), InvalidIndex, 1)

    def test_best_orders_take_five_draws_and_not_six_and_tell_it_last(self):
        self.assertEqual(len(best_orders((SURE,) * 5, (0, 1))[1]), 120)
        six = (COIN,) * 6
        self.assertEqual(raised(self, lambda: best_orders(six, (0, 1)), TooMany).limit, 5)
        check_given(self, lambda: best_orders(six, 1), InvalidNumber, 1)


class Worths(unittest.TestCase):
    def test_worths_and_bars_against_a_search_through_histories(self):
        random = some_random(1)
        for _ in range(40):
            row, rest = random_row(random), random_number(random)
            told = worths_from(row, rest)
            self.assertEqual(told, tuple(number(best_by_history(row, rest, at)) for at in range(len(row) + 1)))
            self.assertEqual(told[-1], rest)
            self.assertEqual(bars(row, rest), told[1:])

    def test_no_way_of_taking_has_a_greater_mean(self):
        random = some_random(2)
        for row in ((COIN, THIRD), (COIN, SURE, THIRD), (even(-2, 3), even(1, 2), SURE), (even(-1, 1), even(0, 2))):
            rest = random_number(random, -1, 3)
            best = max(mean_of_way(row, rest, way) for way in all_ways_to_take(row))
            self.assertEqual(worths_from(row, rest)[0], number(best))

    def test_should_take_at_below_and_above_the_bar(self):
        random = some_random(3)
        for _ in range(30):
            row, rest = random_row(random), random_number(random)
            for at, bar in enumerate(bars(row, rest)):
                self.assertIs(should_take(row, rest, at, bar), True)
                self.assertIs(should_take(row, rest, at, number(fraction(bar) - Fraction(1, 10 ** 9))), False)
                self.assertIs(should_take(row, rest, at, number(fraction(bar) + 1)), True)

    def test_a_bar_for_all(self):
        random = some_random(4)
        for _ in range(30):
            row, rest = random_row(random), random_number(random)
            for bar in points(*row):
                ways = [
                    (next((value for value in way if value >= fraction(bar)), fraction(rest)), chance)
                    for way, chance in outcomes(row)
                ]
                self.assertEqual(bar_worth(row, rest, bar), number(mean(ways)))

    def test_a_number_that_is_just_the_bar_is_taken(self):
        self.assertEqual(bar_worth((COIN, draw((9, 1))), (0, 1), (4, 1)), (13, 2))
        self.assertEqual(bar_worth((COIN, draw((9, 1))), (0, 1), (401, 100)), (9, 1))
        self.assertEqual(bar_worth((SURE, SURE), (-1, 1), (3, 1)), (-1, 1))

    def test_the_prophet(self):
        random = some_random(5)
        for _ in range(40):
            row, rest = random_row(random, 4), random_number(random)
            ways = [(max(*way, fraction(rest)), chance) for way, chance in outcomes(row)]
            self.assertEqual(prophet(row, rest), number(mean(ways)))

    def test_numbers_below_0_and_rests_above_and_below_all(self):
        low = (draw((-5, "1/2"), (-3, "1/2")), draw((-4, 1)))
        self.assertEqual(worths_from(low, (-9, 1)), ((-7, 2), (-4, 1), (-9, 1)))
        self.assertEqual([prophet(low, (-9, 1)), prophet(low, (1, 3))], [(-7, 2), (1, 3)])
        self.assertEqual(worths_from(low, (1, 3)), ((1, 3),) * 3)


class HalfBars(unittest.TestCase):
    def test_it_is_the_sum_of_the_excesses_over_it(self):
        random = some_random(6)
        for _ in range(120):
            row = random_row(random, 6, 4, 0, 9)
            bar = half_bar(row)
            self.assertEqual(sum(fraction(excess(one, bar)) for one in row), fraction(bar))

    def test_it_brings_at_least_half_of_what_the_prophet_has(self):
        random = some_random(7)
        for _ in range(60):
            row = random_row(random, 4, 3, 0, 9)
            bar = half_bar(row)
            self.assertGreaterEqual(fraction(bar_worth(row, (0, 1), bar)), fraction(bar))
            self.assertLessEqual(fraction(prophet(row, (0, 1))), 2 * fraction(bar))

    def test_rows_of_0_alone_and_of_one_number(self):
        zero = draw((0, 1))
        self.assertEqual([half_bar((zero,)), half_bar((zero,) * 6)], [(0, 1), (0, 1)])
        self.assertEqual([half_bar((draw((6, 1)),)), half_bar((SURE,) * 6)], [(3, 1), (12, 7)])
        self.assertEqual(half_bar((zero, even(0, 1))), (1, 3))

    def test_bars_that_are_numbers_of_the_draws(self):
        self.assertEqual(half_bar((draw((1, "1/2"), (3, "1/2")),)), (1, 1))
        self.assertEqual(half_bar((even(0, 2, 4),) * 3), (2, 1))
        self.assertEqual(half_bar((even(1, 2), even(0, 1, 2))), (15, 16))
        self.assertEqual(half_bar((draw((0, "2/3"), (3, "1/3")), draw((1, 1)))), (6, 7))

    def test_half_cannot_be_bettered_for_all_rows(self):
        row = (draw((1, 1)), draw((0, "99/100"), (100, "1/100")))
        self.assertEqual([worths_from(row, (0, 1))[0], prophet(row, (0, 1))], [(1, 1), (199, 100)])
        self.assertEqual(half_bar(row), (200, 201))


class OrdersOfDraws(unittest.TestCase):
    def test_against_all_orders(self):
        random = some_random(8)
        for _ in range(25):
            row, rest = random_row(random, 4), random_number(random)
            worths = {
                order: fraction(worths_from(tuple(row[at] for at in order), rest)[0])
                for order in permutations(range(len(row)))
            }
            best = max(worths.values())
            told = best_orders(row, rest)
            self.assertEqual(told, (number(best), tuple(sorted(order for order in worths if worths[order] == best))))

    def test_one_draw_and_draws_that_are_alike(self):
        self.assertEqual(best_orders((COIN,), (1, 1)), ((5, 2), ((0,),)))
        self.assertEqual(best_orders((COIN, COIN), (0, 1)), ((3, 1), ((0, 1), (1, 0))))

    def test_five_draws(self):
        row = (SURE, draw((3, 1)), COIN, THIRD, even(1, 2, 3, 4))
        worths = {order: worths_from(tuple(row[at] for at in order), (0, 1))[0] for order in permutations(range(5))}
        best = max(fraction(worth) for worth in worths.values())
        self.assertEqual(best_orders(row, (0, 1)), (
            number(best), tuple(sorted(order for order in worths if fraction(worths[order]) == best)),
        ))


class WaysBack(unittest.TestCase):
    def recall_by_history(self, row, rest, price, at=0, seen=()):
        """The greatest mean over all ways to end or to pay, with the whole history at hand."""
        had = max([fraction(rest), *seen])
        if at == len(row):
            return had
        ahead = [(self.recall_by_history(row, rest, price, at + 1, seen + (value,)), chance)
                 for value, chance in table(row[at])]
        return max(had, mean(ahead) - fraction(price))

    def test_against_a_search_through_histories(self):
        random = some_random(9)
        for _ in range(60):
            row, rest = random_row(random, 4), random_number(random, -3, 4)
            price = number(abs(fraction(random_number(random, 0, 2))))
            self.assertEqual(recall_worth(row, rest, price), number(self.recall_by_history(row, rest, price)))

    def test_the_price_0_and_prices_above_all(self):
        random = some_random(10)
        for _ in range(20):
            row, rest = random_row(random, 4), random_number(random)
            self.assertEqual(recall_worth(row, rest, (0, 1)), prophet(row, rest))
            self.assertEqual(recall_worth(row, rest, (100, 1)), rest)

    def test_paying_with_no_gain_at_once_but_later(self):
        row = (draw((0, 1)), draw((0, "1/2"), (20, "1/2")))
        self.assertEqual(recall_worth(row, (1, 1), (2, 1)), (13, 2))

    def test_six_draws_of_many_numbers(self):
        row = tuple(even(*range(at, 64 + at)) for at in range(6))
        self.assertEqual(recall_worth(row, (0, 1), (0, 1)), prophet(row, (0, 1)))


class Picks(unittest.TestCase):
    def search(self, row, times):
        """The greatest mean over all ways to take up to so many numbers, with the whole history at hand."""
        @lru_cache(maxsize=None)
        def best(at, taken, seen):
            if at == len(row):
                return sum(seen[k] for k in taken)
            total = Fraction(0)
            for value, chance in table(row[at]):
                ways = [best(at + 1, taken, seen + (value,))]
                if len(taken) < times:
                    ways.append(best(at + 1, taken + (at,), seen + (value,)))
                total += chance * max(ways)
            return total
        return best(0, (), ())

    def test_against_a_search_through_histories(self):
        random = some_random(11)
        for _ in range(40):
            row = random_row(random, 4)
            for times in range(1, len(row) + 1):
                self.assertEqual(picks(row, times), number(self.search(row, times)))

    def test_as_many_picks_as_draws(self):
        self.assertEqual(picks((COIN, THIRD, SURE), 3), (7, 1))
        self.assertEqual(picks((even(-4, 2), draw((-1, 1))), 2), (1, 1))

    def test_numbers_below_0_are_not_taken(self):
        self.assertEqual(picks((draw((-1, 1)),), 1), (0, 1))
        self.assertEqual(picks((even(-4, 2), draw((-1, 1))), 1), (1, 1))

    def test_one_pick_is_the_worth_with_nothing_as_the_rest(self):
        random = some_random(12)
        for _ in range(20):
            row = random_row(random, 5)
            self.assertEqual(picks(row, 1), worths_from(row, (0, 1))[0])


if __name__ == "__main__":
    unittest.main()
