import unittest
from fractions import Fraction
from itertools import combinations, product

from placeworths.errors import InvalidCompany, InvalidNumber, InvalidRow, TooMany
from placeworths.looks import company_worth
from placeworths.made import company_web, row_web
from placeworths.stops import worths_from
from placeworths.webs import Web
from placeworths.worths import worth
from tests.helpers import (
    check_given, check_signature, draw, even, fraction, number, raised, random_draw, random_number, some_random, table,
    wrong_numbers, wrong_rows,
)
from tests.test_looks import FREE, NEAR, WIDE, best_by_search, random_company, wrong_companies
from tests.test_stops import best_by_history, random_row
from tests.webhelpers import searched

COIN, SURE, THIRD = even(0, 4), draw((2, 1)), draw((0, "2/3"), (9, "1/3"))
ZERO = (0, 1)
EIGHT = even(*range(8))
NINE = even(*range(9))


def row_size(row, rest):
    """How many draws, pairs and unlike numbers there are."""
    unlike = {fraction(rest)} | {value for one in row for value, _ in table(one)}
    return len(row) + sum(len(one) for one in row) + len(unlike)


def company_size(company, floor):
    """How many standings, closed boxes of standings and unlike greatest numbers there are, by all ways to look."""
    standings = set()
    for count in range(len(company) + 1):
        for lot in combinations(range(len(company)), count):
            for seen in product(*[[value for value, _ in table(company[index][0])] for index in lot]):
                standings.add((lot, max([fraction(floor), *seen])))
    closed = sum(len(company) - len(lot) for lot, _ in standings)
    return len(standings) + closed + len({had for _, had in standings})


class Made(unittest.TestCase):
    def check_web(self, web, expected):
        """Checks a made web in all that is promised of it."""
        self.assertIs(type(web), Web)
        self.assertTrue(web.is_ending and len(web.places) <= 24)
        self.assertTrue({row[1] for row in web.rows} <= {"chance", "ours", "end"})
        self.assertEqual(worth(web, "a"), number(expected))

    def check_too_many(self, call, limit):
        found = raised(self, call, TooMany)
        self.assertEqual(vars(found), {"limit": limit})


class Rows(Made):
    def test_worths_of_drawn_rows_worked_out_by_all_histories(self):
        random = some_random(1)
        fits = {True: 0, False: 0}
        for _ in range(300):
            row, rest = random_row(random, 3, 3), random_number(random)
            size = row_size(row, rest)
            fits[size <= 24] += 1
            if size <= 24:
                web = row_web(row, rest)
                self.check_web(web, best_by_history(row, rest))
                self.assertEqual(worth(web, "a"), worths_from(row, rest)[0])
            else:
                self.check_too_many(lambda: row_web(row, rest), 24)
        self.assertTrue(fits[True] > 150, fits)

    def test_longer_rows_of_few_numbers(self):
        random = some_random(2)
        fits = {True: 0, False: 0}
        for _ in range(200):
            row = tuple(random_draw(random, 3, 0, 6, (1,)) for _ in range(random.randint(4, 6)))
            rest = random_number(random, 0, 1)
            size = row_size(row, rest)
            fits[size <= 24] += 1
            if size <= 24:
                self.check_web(row_web(row, rest), fraction(worths_from(row, rest)[0]))
            else:
                self.check_too_many(lambda: row_web(row, rest), 24)
        self.assertTrue(min(fits.values()) > 10, fits)

    def test_the_worth_is_that_of_a_search_through_all_plans(self):
        for row, rest in (((COIN, THIRD), ZERO), ((COIN, SURE), (5, 2)), ((SURE,), (2, 1)), ((THIRD,), (1, 1))):
            low, high = searched(row_web(row, rest).rows)
            self.assertEqual(low, high)
            self.assertEqual(number(low["a"]), worths_from(row, rest)[0])

    def test_one_draw(self):
        self.check_web(row_web((SURE,), ZERO), 2)
        self.check_web(row_web((SURE,), (3, 1)), 3)
        self.check_web(row_web((COIN,), (1, 1)), Fraction(5, 2))
        self.check_web(row_web((COIN,), (-1, 1)), 2)

    def test_six_draws(self):
        row = (SURE,) * 6
        self.assertEqual(row_size(row, ZERO), 14)
        self.check_web(row_web(row, ZERO), 2)
        self.check_web(row_web(row, (7, 3)), Fraction(7, 3))
        falling = tuple(draw((5 - k, 1)) for k in range(6))
        self.assertEqual(row_size(falling, ZERO), 18)
        self.check_web(row_web(falling, ZERO), 5)
        self.check_web(row_web(falling[::-1], ZERO), 5)

    def test_a_number_that_is_the_rest(self):
        self.check_web(row_web((COIN,), ZERO), 2)
        self.check_web(row_web((COIN,), (4, 1)), 4)
        self.check_web(row_web((SURE,), (2, 1)), 2)
        self.check_web(row_web((SURE, SURE), (2, 1)), 2)
        self.check_web(row_web((COIN, COIN, COIN), (4, 1)), 4)

    def test_numbers_alike_in_several_draws_count_once(self):
        row = (COIN, COIN, COIN)
        self.assertEqual(row_size(row, ZERO), 11)
        self.check_web(row_web(row, ZERO), fraction(worths_from(row, ZERO)[0]))
        # Six draws of two pairs are 18: with six unlike numbers there are just 24, with seven too many.
        wide = (even(0, 1), even(2, 3), even(0, 4), even(1, 2), even(3, 4), even(0, 4))
        self.assertEqual(row_size(wide, (5, 1)), 24)
        self.check_web(row_web(wide, (5, 1)), 5)
        more = wide[:5] + (even(0, 6),)
        self.assertEqual(row_size(more, (5, 1)), 25)
        self.check_too_many(lambda: row_web(more, (5, 1)), 24)
        self.check_web(row_web(more, (4, 1)), fraction(worths_from(more, (4, 1))[0]))

    def test_eight_pairs_and_nine(self):
        self.assertEqual(row_size((EIGHT,), ZERO), 17)
        self.check_web(row_web((EIGHT,), ZERO), Fraction(7, 2))
        self.check_web(row_web((EIGHT,), (99, 1)), 99)
        self.check_too_many(lambda: row_web((NINE,), ZERO), 8)
        self.check_too_many(lambda: row_web((SURE, NINE), ZERO), 8)

    def test_just_24_and_just_more(self):
        row = (EIGHT, draw((3, 1)), draw((4, 1)))
        self.assertEqual([row_size(row, ZERO), row_size(row, (8, 1))], [21, 22])
        just = row + (draw((5, 1)),)
        self.assertEqual([row_size(just, (7, 1)), row_size(just, (8, 1))], [23, 24])
        for rest in ((7, 1), (8, 1)):
            self.check_web(row_web(just, rest), fraction(worths_from(just, rest)[0]))
        more = row + (draw((9, 1)),)
        self.assertEqual([row_size(more, (7, 1)), row_size(more, (8, 1))], [24, 25])
        self.check_web(row_web(more, (7, 1)), 9)
        self.check_too_many(lambda: row_web(more, (8, 1)), 24)

    def test_both_limits_passed_at_once(self):
        self.check_too_many(lambda: row_web((EIGHT, EIGHT), ZERO), 24)
        self.check_too_many(lambda: row_web((EIGHT, NINE), ZERO), 8)
        self.check_too_many(lambda: row_web((NINE, EIGHT, EIGHT), ZERO), 8)
        self.check_too_many(lambda: row_web((even(*range(64)),) * 6, ZERO), 8)
        self.check_too_many(lambda: row_web((even(*range(64)),), ZERO), 8)

    def test_limits_are_looked_for_last(self):
        for wrong in wrong_numbers()[:30]:
            check_given(self, lambda: row_web((NINE,) * 6, wrong), InvalidNumber, wrong)
            check_given(self, lambda: row_web((EIGHT,) * 6, wrong), InvalidNumber, wrong)

    def test_signature(self):
        check_signature(self, row_web, [("row", (COIN, THIRD), wrong_rows(), InvalidRow),
                                        ("rest", ZERO, wrong_numbers(), InvalidNumber)])

    def test_large_numbers(self):
        huge = 10 ** 40 - 1
        row = (draw((-huge, "1/2"), (Fraction(1, huge), "1/2")), draw((Fraction(huge, 7), 1)))
        rest = number(Fraction(-huge, 3))
        self.check_web(row_web(row, rest), best_by_history(row, rest))


class Companies(Made):
    def test_worths_of_drawn_companies_worked_out_by_all_ways(self):
        random = some_random(11)
        fits = {True: 0, False: 0}
        for _ in range(500):
            company = random_company(random, 3, pairs=2 if random.random() < 0.8 else 4)
            floor = random_number(random, -5, 10)
            size = company_size(company, floor)
            fits[size <= 24] += 1
            if size <= 24:
                web = company_web(company, floor)
                self.check_web(web, best_by_search(company, fraction(floor)))
                self.assertEqual(worth(web, "a"), company_worth(company, floor))
            else:
                self.check_too_many(lambda: company_web(company, floor), 24)
        self.assertTrue(min(fits.values()) > 40, fits)

    def test_a_company_without_boxes(self):
        for floor in ((2, 1), ZERO, (-7, 3)):
            self.check_web(company_web((), floor), fraction(floor))

    def test_prices_of_nothing_and_above_all_that_boxes_bring(self):
        free, dear = (COIN, (0, 1)), (COIN, (100, 1))
        self.check_web(company_web((free,), (1, 1)), Fraction(5, 2))
        self.check_web(company_web((free, free), ZERO), 3)
        self.check_web(company_web((dear,), (1, 1)), 1)
        self.check_web(company_web((dear,), (-1, 1)), -1)
        self.check_web(company_web((dear, FREE), ZERO), 5)
        self.check_web(company_web((dear,), (-1000, 1)), -98)

    def test_floors_below_among_and_above_all_numbers(self):
        for floor in range(-3, 14):
            for company in ((WIDE,), (WIDE, NEAR), (FREE, WIDE), (FREE, FREE, FREE)):
                if company_size(company, (floor, 1)) <= 24:
                    self.check_web(company_web(company, (floor, 1)), best_by_search(company, Fraction(floor)))

    def test_three_boxes_under_a_floor_above_all_numbers(self):
        company = (WIDE, NEAR, (EIGHT, (1, 2)))
        self.assertEqual(company_size(company, (10, 1)), 21)
        self.check_web(company_web(company, (10, 1)), 10)
        self.assertTrue(company_size(company, (9, 1)) > 24)
        self.check_too_many(lambda: company_web(company, (9, 1)), 24)

    def test_just_24_and_just_more(self):
        # Standings, closed boxes and unlike greatest numbers, counted by hand.
        sure = (SURE, (1, 1))
        self.assertEqual(company_size((sure, sure, sure), ZERO), 8 + 12 + 2)
        self.check_web(company_web((sure, sure, sure), ZERO), 1)
        one = (draw((5, 1)), (1, 1))
        self.assertEqual(company_size((sure, sure, one), ZERO), 8 + 12 + 3)
        self.check_web(company_web((sure, sure, one), ZERO), 4)
        two = (draw((3, 1)), (1, 1))
        self.assertEqual(company_size((sure, two, one), ZERO), 24)
        self.check_web(company_web((sure, two, one), ZERO), 4)
        often = (draw((2, "1/2"), (3, "1/2")), (1, 1))
        self.assertEqual(company_size((sure, sure, often), (2, 1)), 12 + 16 + 2)
        self.check_too_many(lambda: company_web((sure, sure, often), (2, 1)), 24)
        pair = (even(*range(8)), (1, 1))
        self.assertEqual(company_size((pair,), (-1, 1)), 1 + 8 + 1 + 9)
        self.check_web(company_web((pair,), (-1, 1)), Fraction(5, 2))

    def test_drawn_companies_near_the_limit(self):
        random = some_random(12)
        seen = {}
        while not {24, 25} <= {size for size in seen if seen[size] > 5}:
            company = random_company(random, 3, 2, pairs=3)
            floor = random_number(random, 0, 8)
            size = company_size(company, floor)
            seen[size] = seen.get(size, 0) + 1
            if size == 24:
                self.check_web(company_web(company, floor), best_by_search(company, fraction(floor)))
            if size == 25:
                self.check_too_many(lambda: company_web(company, floor), 24)

    def test_four_boxes_and_six_are_too_many(self):
        for count in (4, 5, 6):
            self.check_too_many(lambda: company_web((FREE,) * count, ZERO), 24)
            self.check_too_many(lambda: company_web((FREE,) * count, (99, 1)), 24)

    def test_eight_pairs_and_nine(self):
        self.check_web(company_web(((EIGHT, (1, 1)),), (7, 1)), 7)
        self.check_web(company_web(((EIGHT, ZERO),), (3, 1)), Fraction(17, 4))
        for floor in (ZERO, (99, 1)):
            self.check_too_many(lambda: company_web(((NINE, (1, 1)),), floor), 8)
            self.check_too_many(lambda: company_web((FREE, (NINE, (1, 1))), floor), 8)

    def test_both_limits_passed_at_once(self):
        self.check_too_many(lambda: company_web(((EIGHT, ZERO),) * 6, ZERO), 24)
        self.check_too_many(lambda: company_web(((EIGHT, ZERO),) * 5 + ((NINE, ZERO),), ZERO), 8)
        self.check_too_many(lambda: company_web(((even(*range(64)), ZERO),) * 6, ZERO), 8)

    def test_limits_are_looked_for_last(self):
        for wrong in wrong_numbers()[:30]:
            check_given(self, lambda: company_web(((NINE, ZERO),) * 6, wrong), InvalidNumber, wrong)
            check_given(self, lambda: company_web((FREE,) * 6, wrong), InvalidNumber, wrong)

    def test_signature(self):
        check_signature(self, company_web, [("company", (WIDE,), wrong_companies(), InvalidCompany),
                                            ("floor", ZERO, wrong_numbers(), InvalidNumber)])


if __name__ == "__main__":
    unittest.main()
