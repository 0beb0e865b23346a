import unittest
from fractions import Fraction
from itertools import permutations

from placeworths.draws import capped, excess
from placeworths.errors import InvalidBox, InvalidCompany, InvalidIndex, InvalidNumber, InvalidOrder
from placeworths.looks import (
    best_order, better_box, box_gain, capped_draw, company_worth, floor_against, opened_chance, paid_mean, strike,
    worth_in,
)
from tests.helpers import (
    Nasty, check_given, check_signature, draw, even, fraction, made_of, number, odd_values, random_draw, random_number,
    some_random, table, wrong_draws, wrong_numbers,
)

COIN = even(0, 4)
WIDE = (even(0, 10), (1, 1))
NEAR = (even(4, 8), (1, 1))
FREE = (draw((5, 1)), (0, 1))


def wrong_boxes():
    """Values that are no boxes."""
    wrongs = odd_values() + [
        (), COIN, (COIN,), [COIN, (1, 1)], (COIN, (1, 1), (1, 1)), ((1, 1), COIN), (COIN, (-1, 1)), (COIN, (-1, 99)),
        (COIN, 1), (COIN, True), (COIN, [1, 1]), (COIN, (2, 2)), (COIN, Nasty()), (Nasty(), (1, 1)), {COIN: (1, 1)},
    ]
    return wrongs + [(wrong, (1, 1)) for wrong in wrong_draws()] + [(COIN, wrong) for wrong in wrong_numbers()]


def wrong_companies():
    """Values that are no companies."""
    wrongs = odd_values() + [WIDE, [WIDE], (WIDE, [WIDE]), (WIDE,) * 7, (WIDE, ()), (WIDE, None), ((WIDE,),), COIN, {}]
    return wrongs + [(WIDE, wrong) for wrong in wrong_boxes()]


def random_box(random, most=3):
    price = random.choice((0, 0, 1, 2, 3, 20)) if random.random() < 0.4 else Fraction(random.randint(1, 8), 3)
    return (random_draw(random, most), number(price))


def random_company(random, most=3, least=0, pairs=3):
    return tuple(random_box(random, pairs) for _ in range(random.randint(least, most)))


def mean(ways):
    return sum(value * chance for value, chance in ways)


def best_by_search(company, floor, seen=()):
    """The greatest mean over all ways to open boxes and to end; seen has pairs (index, number)."""
    best = max([floor, *[value for _, value in seen]])
    opened = [index for index, _ in seen]
    for index, (one, price) in enumerate(company):
        if index not in opened:
            ways = [(best_by_search(company, floor, seen + ((index, value),)), chance) for value, chance in table(one)]
            best = max(best, mean(ways) - fraction(price))
    return best


def in_order_by_search(boxes, floor, seen=()):
    """The greatest mean if boxes are opened in their order until one ends."""
    best = max([floor, *seen])
    if len(seen) < len(boxes):
        one, price = boxes[len(seen)]
        ways = [(in_order_by_search(boxes, floor, seen + (value,)), chance) for value, chance in table(one)]
        best = max(best, mean(ways) - fraction(price))
    return best


def walk(company, floor, order, seen=()):
    """All ways in which opening in the order goes: tuples (opened indexes, chance, what is had at last)."""
    had = max([floor, *seen])
    at = len(seen)
    if at == len(order) or fraction(strike(company[order[at]])) <= had:
        return [(order[:at], Fraction(1), had)]
    return [
        (opened, chance * rest, last)
        for value, chance in table(company[order[at]][0])
        for opened, rest, last in walk(company, floor, order, seen + (value,))
    ]


class Signatures(unittest.TestCase):
    def setUp(self):
        self.company = ("company", (WIDE, NEAR, FREE), wrong_companies(), InvalidCompany)
        self.floor = ("floor", (1, 2), wrong_numbers(), InvalidNumber)
        wrongs = [value for value in odd_values() if type(value) is not int or value != 2]
        self.index = ("index", 2, wrongs + [3, -3, (0, 1), (), "0", [0]], InvalidIndex)

    def test_boxes(self):
        box = ("box", WIDE, wrong_boxes(), InvalidBox)
        for function in (strike, capped_draw):
            check_signature(self, function, [box])
        for function in (better_box, floor_against):
            check_signature(self, function, [box, ("other", NEAR, wrong_boxes(), InvalidBox)])

    def test_companies(self):
        check_signature(self, best_order, [self.company])
        for function in (company_worth, paid_mean):
            check_signature(self, function, [self.company, self.floor])
        for function in (box_gain, opened_chance):
            check_signature(self, function, [self.company, self.floor, self.index])

    def test_orders(self):
        wrongs = odd_values() + [
            (), (0, 1), (0, 1, 1), (0, 1, 3), (1, 2, 3), (-1, 0, 1), [0, 1, 2], (0, 1, 2, 2), (0, 1, 2, 3),
            (False, True, 2), (0, True, 2), ("0", "1", "2"), (0, 1, None), (0, 1, Nasty()), ((0, 1, 2),), "012",
            (0, 1, Fraction(2)), range(3),
        ]
        check_signature(self, worth_in, [self.company, ("order", (2, 0, 1), wrongs, InvalidOrder), self.floor])

    def test_companies_of_none_and_of_six_boxes(self):
        self.assertEqual([company_worth((), (-2, 3)), paid_mean((), (0, 1))], [(-2, 3), (0, 1)])
        self.assertEqual([best_order(()), worth_in((), (), (7, 2))], [(), (7, 2)])
        for function in (box_gain, opened_chance):
            check_given(self, lambda: function((), (0, 1), 0), InvalidIndex, 0)
        check_given(self, lambda: worth_in((), (0,), (0, 1)), InvalidOrder, (0,))
        six = (FREE,) * 6
        self.assertEqual([company_worth(six, (0, 1)), best_order(six)], [(5, 1), (0, 1, 2, 3, 4, 5)])
        seven = (FREE,) * 7
        for call in (lambda: company_worth(seven, (0, 1)), lambda: best_order(seven)):
            check_given(self, call, InvalidCompany, seven)


class Strikes(unittest.TestCase):
    def test_the_excess_over_the_strike_is_the_price(self):
        random = some_random(1)
        for _ in range(80):
            one = random_draw(random, 5)
            price = Fraction(random.randint(1, 40), random.choice((1, 3, 7)))
            self.assertEqual(excess(one, strike((one, number(price)))), number(price))

    def test_the_strike_of_the_price_0_is_the_greatest_number(self):
        random = some_random(2)
        for _ in range(20):
            one = random_draw(random, 5)
            self.assertEqual(strike((one, (0, 1))), one[-1][0])
        self.assertEqual(strike((draw((-7, "1/2"), (-5, "1/2")), (0, 1))), (-5, 1))

    def test_strikes_at_between_and_below_the_numbers(self):
        self.assertEqual([strike((COIN, (2, 1))), strike((COIN, (1, 1))), strike((COIN, (9, 1)))],
                         [(0, 1), (2, 1), (-7, 1)])
        self.assertEqual(strike((even(0, 2, 7), (5, 3))), (2, 1))

    def test_capped_draws(self):
        random = some_random(3)
        for _ in range(60):
            box = random_box(random, 5)
            z = fraction(strike(box))
            self.assertEqual(capped_draw(box), made_of([(min(value, z), chance) for value, chance in table(box[0])]))
        self.assertEqual(capped_draw((COIN, (0, 1))), COIN)
        self.assertEqual(capped_draw((COIN, (9, 1))), draw((-7, 1)))


class Companies(unittest.TestCase):
    def test_company_worths_against_a_search_through_all_ways(self):
        random = some_random(4)
        for _ in range(60):
            company, floor = random_company(random), random_number(random, -4, 6)
            self.assertEqual(company_worth(company, floor), number(best_by_search(company, fraction(floor))))

    def test_four_boxes_against_a_search_through_all_ways(self):
        random = some_random(5)
        for _ in range(6):
            company, floor = random_company(random, 4, 4, 2), random_number(random, -2, 3)
            self.assertEqual(company_worth(company, floor), number(best_by_search(company, fraction(floor))))

    def test_prices_above_all_that_boxes_bring(self):
        dear = (COIN, (100, 1))
        self.assertEqual(company_worth((dear, dear), (1, 3)), (1, 3))
        self.assertEqual(company_worth((dear, WIDE), (0, 1)), company_worth((WIDE,), (0, 1)))
        self.assertEqual([box_gain((dear, WIDE), (0, 1), 0), opened_chance((dear, WIDE), (0, 1), 0)], [(0, 1), (0, 1)])
        self.assertEqual(paid_mean((dear, WIDE), (0, 1)), (1, 1))
        self.assertEqual(company_worth((dear,), (-200, 1)), (-98, 1))
        self.assertEqual(opened_chance((dear,), (-200, 1), 0), (1, 1))

    def test_boxes_with_the_price_0_are_all_opened_for_what_they_bring(self):
        free = (COIN, (0, 1))
        self.assertEqual([company_worth((free, free), (0, 1)), company_worth((free, free), (-9, 1))], [(3, 1), (3, 1)])
        self.assertEqual(opened_chance((free, free), (0, 1), 1), (1, 2))

    def test_worths_in_orders_against_a_search(self):
        random = some_random(6)
        for _ in range(30):
            company, floor = random_company(random), random_number(random, -4, 6)
            worths = []
            for order in permutations(range(len(company))):
                told = worth_in(company, order, floor)
                boxes = [company[index] for index in order]
                self.assertEqual(told, number(in_order_by_search(boxes, fraction(floor))))
                worths.append(fraction(told))
            self.assertEqual(company_worth(company, floor), number(max(worths)))
            self.assertEqual(worth_in(company, best_order(company), floor), company_worth(company, floor))

    def test_no_box_is_left_out_in_an_order(self):
        bad = (draw((0, 1)), (3, 1))
        self.assertEqual(worth_in((bad, FREE), (0, 1), (0, 1)), (2, 1))
        self.assertEqual(worth_in((bad, FREE), (1, 0), (0, 1)), (5, 1))
        self.assertEqual(worth_in((bad, FREE), (0, 1), (3, 1)), (3, 1))

    def test_best_orders_go_by_falling_strikes_the_lesser_index_first(self):
        random = some_random(7)
        for _ in range(60):
            company = random_company(random, 6)
            told = best_order(company)
            self.assertEqual(told, tuple(sorted(range(len(company)), key=lambda k: (-fraction(strike(company[k])), k))))
        self.assertEqual(best_order((NEAR, WIDE, NEAR, WIDE)), (1, 3, 0, 2))

    def test_gains(self):
        random = some_random(8)
        for _ in range(40):
            company, floor = random_company(random, 4, 1), random_number(random, -4, 6)
            for index in range(len(company)):
                others = company[:index] + company[index + 1:]
                gain = fraction(company_worth(company, floor)) - fraction(company_worth(others, floor))
                self.assertEqual(box_gain(company, floor, index), number(gain))


class Opened(unittest.TestCase):
    def test_chances_and_means_against_all_ways_it_goes(self):
        random = some_random(9)
        for _ in range(60):
            company, floor = random_company(random, 4), random_number(random, -4, 6)
            ways = walk(company, fraction(floor), best_order(company))
            paid = Fraction(0)
            for index, (_, price) in enumerate(company):
                chance = sum(part for opened, part, _ in ways if index in opened)
                paid += chance * fraction(price)
                self.assertEqual(opened_chance(company, floor, index), number(chance))
            self.assertEqual(paid_mean(company, floor), number(paid))
            had = sum(part * last for _, part, last in ways)
            self.assertEqual(company_worth(company, floor), number(had - paid))

    def test_equal_strikes_open_the_lesser_index_first(self):
        company = (NEAR, NEAR)
        self.assertEqual([opened_chance(company, (0, 1), 0), opened_chance(company, (0, 1), 1)], [(1, 1), (1, 2)])

    def test_a_floor_or_a_number_that_is_just_the_strike_ends(self):
        self.assertEqual([opened_chance((WIDE,), (8, 1), 0), opened_chance((WIDE,), (7, 1), 0)], [(0, 1), (1, 1)])
        self.assertEqual(opened_chance((NEAR, (even(6, 9), (0, 1))), (0, 1), 0), (0, 1))
        self.assertEqual(opened_chance((NEAR, (even(5, 9), (0, 1))), (0, 1), 0), (1, 2))


class BetterBoxes(unittest.TestCase):
    def pairs(self, seed, rounds):
        random = some_random(seed)
        for _ in range(rounds):
            box = random_box(random)
            yield box, random_box(random)
            yield box, (box[0], number(fraction(box[1]) + random.randint(0, 2)))
            yield box, box

    def test_floors_at_which_the_one_box_alone_is_worth_less(self):
        told = []
        for box, other in self.pairs(10, 60):
            floor = floor_against(box, other)
            told.append(floor is None)
            self.assertIs(better_box(box, other), floor is None)
            if floor is not None:
                self.assertLess(fraction(company_worth((box,), floor)), fraction(company_worth((other,), floor)))
        self.assertTrue(any(told) and not all(told))

    def test_better_boxes_are_so_at_all_floors_and_in_companies(self):
        random = some_random(11)
        for box, other in self.pairs(12, 40):
            if better_box(box, other):
                for _ in range(8):
                    others, floor = random_company(random, 2), random_number(random, -12, 9)
                    one = fraction(company_worth((*others, box), floor))
                    self.assertGreaterEqual(one, fraction(company_worth((*others, other), floor)))

    def test_a_box_that_only_has_the_greater_mean_is_not_better(self):
        sure, wide = (draw((4, 1)), (0, 1)), (draw((0, "3/4"), (12, "1/4")), (0, 1))
        self.assertEqual([better_box(sure, wide), better_box(wide, sure)], [False, False])
        self.assertEqual(floor_against(wide, sure), (0, 1))
        self.assertEqual(floor_against(sure, wide), (4, 1))

    def test_only_what_is_capped_counts(self):
        low = (draw((0, "1/2"), (4, "1/2")), (1, 1))
        self.assertEqual([strike(low), better_box(low, (even(0, 2), (0, 1))), better_box((even(0, 2), (0, 1)), low)],
                         [(2, 1), True, True])
        self.assertEqual(capped((even(0, 2)), (2, 1)), (1, 1))


if __name__ == "__main__":
    unittest.main()
