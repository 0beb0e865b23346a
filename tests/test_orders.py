import unittest
from fractions import Fraction

from placeworths.errors import InvalidDraw
from placeworths.orders import bold, bold_at, cautious, cautious_at, less_at, lift, never_less, sinking, spread
from tests.helpers import (
    check_signature, draw, even, fraction, number, points, random_draw, random_number, some_random, table, wrong_draws,
)

COIN = even(0, 4)
SURE = draw((2, 1))
ALL = (never_less, cautious, bold, less_at, cautious_at, bold_at, lift, spread, sinking)


def above(pairs, z):
    return sum(chance for value, chance in pairs if value > z)


def capped(pairs, z):
    return sum(min(value, z) * chance for value, chance in pairs)


def excess(pairs, z):
    return sum(max(value - z, 0) * chance for value, chance in pairs)


def behind(one, two, measure):
    """The points at which the measure of the first draw is less, and the least number of both that is one."""
    pairs, others = table(one), table(two)
    all_points = [fraction(point) for point in points(one, two)]
    less = [z for z in all_points if measure(pairs, z) < measure(others, z)]
    numbers = {value for value, _ in pairs + others}
    return less, min([z for z in less if z in numbers], default=None)


def steps_between(seed, rounds):
    """Pairs of draws between which some order may hold, made by random steps from each of them."""
    random = some_random(seed)
    for _ in range(rounds):
        first = random_draw(random)
        yield first, random_draw(random)
        pairs = table(first)
        ways, worse = {}, {}
        for value, chance in pairs:
            wide = Fraction(random.randint(0, 4), 2)
            up = Fraction(random.choice((0, 0, 1, 3)), 2)
            for to in (value - wide + up, value + wide + up):
                ways[to] = ways.get(to, 0) + chance / 2
            for to in (value - wide - up, value + wide - up):
                worse[to] = worse.get(to, 0) + chance / 2
        yield draw(*sorted(ways.items())), first
        yield first, draw(*sorted(worse.items()))
        yield first, first
        yield first, draw((sum(value * chance for value, chance in pairs), 1))
        yield draw((sum(value * chance for value, chance in pairs), 1)), first
        high = {value + random.randint(0, 2): 0 for value, _ in pairs}
        parts = [random.randint(1, 3) for _ in high]
        yield draw(*zip(sorted(high), [Fraction(part, sum(parts)) for part in parts])), first


class Signatures(unittest.TestCase):
    def test_every_signature(self):
        for function in ALL:
            check_signature(self, function, [
                ("draw", COIN, wrong_draws(), InvalidDraw), ("other", even(0, 3), wrong_draws(), InvalidDraw),
            ])


class Orders(unittest.TestCase):
    def test_orders_against_their_words_at_between_and_beyond_all_numbers(self):
        for one, two in steps_between(1, 60):
            for order, where, measure in (
                (never_less, less_at, above), (cautious, cautious_at, capped), (bold, bold_at, excess),
            ):
                less, least = behind(one, two, measure)
                self.assertIs(order(one, two), not less)
                self.assertEqual(where(one, two), None if least is None else number(least))

    def test_the_random_pairs_show_all_cases(self):
        told = [(never_less(*pair), cautious(*pair), bold(*pair)) for pair in steps_between(1, 60)]
        for case in ((True, True, True), (False, True, True), (False, True, False), (False, False, True),
                     (False, False, False)):
            self.assertIn(case, told)
        for case in told:
            self.assertTrue(not case[0] or case[1] and case[2])

    def test_equal_draws_are_as_good_as_each_other(self):
        for one in (COIN, SURE, even(*range(64))):
            self.assertTrue(never_less(one, one) and cautious(one, one) and bold(one, one))
            self.assertEqual([less_at(one, one), cautious_at(one, one), bold_at(one, one)], [None, None, None])

    def test_a_draw_and_its_own_mean_for_sure(self):
        self.assertEqual([never_less(COIN, SURE), never_less(SURE, COIN)], [False, False])
        self.assertEqual([cautious(SURE, COIN), cautious(COIN, SURE)], [True, False])
        self.assertEqual([bold(COIN, SURE), bold(SURE, COIN)], [True, False])
        self.assertEqual([less_at(COIN, SURE), less_at(SURE, COIN)], [(0, 1), (2, 1)])
        self.assertEqual([cautious_at(COIN, SURE), bold_at(SURE, COIN)], [(2, 1), (2, 1)])

    def test_the_least_number_told_stands_in_either_draw(self):
        self.assertEqual(less_at(even(0, 1), even(0, 5)), (1, 1))
        self.assertEqual(less_at(draw((3, 1)), draw((5, 1))), (3, 1))
        self.assertEqual(cautious_at(draw((3, 1)), draw((5, 1))), (5, 1))
        self.assertEqual(bold_at(draw((3, 1)), draw((5, 1))), (3, 1))
        self.assertEqual(bold_at(draw((0, "3/4"), (8, "1/4")), draw((-9, "1/2"), (7, "1/2"))), (0, 1))
        self.assertEqual(bold_at(draw((0, "3/4"), (8, "1/4")), draw((-9, "1/3"), (2, "1/3"), (9, "1/3"))), (0, 1))
        self.assertEqual(bold_at(even(0, 4), draw((0, "1/2"), ("1/2", "1/4"), (5, "1/4"))), (4, 1))


class Transfers(unittest.TestCase):
    def check_transfer(self, triples, source, target):
        """Checks that the triples are a transfer from the source to the target."""
        self.assertIs(type(triples), tuple)
        ways = []
        for triple in triples:
            self.assertIs(type(triple), tuple)
            for part in triple:
                self.assertEqual(number(fraction(part)), part)
            self.assertGreater(triple[2][0], 0)
            ways.append(tuple(fraction(part) for part in triple))
        keys = [way[:2] for way in ways]
        self.assertEqual(keys, sorted(set(keys)))
        for at, one in ((0, source), (1, target)):
            chances = {}
            for way in ways:
                chances[way[at]] = chances.get(way[at], 0) + way[2]
            self.assertEqual(chances, dict(table(one)))
        return ways

    def means(self, ways):
        """For each FROM the mean of what it becomes."""
        sums, parts = {}, {}
        for start, to, chance in ways:
            sums[start] = sums.get(start, 0) + to * chance
            parts[start] = parts.get(start, 0) + chance
        return {start: sums[start] / parts[start] for start in sums}

    def check_lift(self, one, two):
        for start, to, _ in self.check_transfer(lift(one, two), two, one):
            self.assertGreaterEqual(to, start)

    def check_spread(self, one, two):
        for start, mean in self.means(self.check_transfer(spread(one, two), two, one)).items():
            self.assertGreaterEqual(mean, start)

    def check_sinking(self, one, two):
        for start, mean in self.means(self.check_transfer(sinking(one, two), one, two)).items():
            self.assertLessEqual(mean, start)

    def test_transfers_are_told_exactly_where_the_orders_hold(self):
        for one, two in steps_between(2, 80):
            for order, transfer, check in (
                (never_less, lift, self.check_lift), (bold, spread, self.check_spread),
                (cautious, sinking, self.check_sinking),
            ):
                if order(one, two):
                    check(one, two)
                else:
                    self.assertIsNone(transfer(one, two))

    def test_equal_draws_and_draws_of_one_number(self):
        for one in (COIN, SURE, even(*range(64)), draw((-1, "1/7"), (0, "2/7"), ("1/2", "4/7"))):
            self.check_lift(one, one)
            self.check_spread(one, one)
            self.check_sinking(one, one)
        self.assertEqual(lift(draw((5, 1)), SURE), (((2, 1), (5, 1), (1, 1)),))
        self.assertEqual(spread(draw((5, 1)), SURE), (((2, 1), (5, 1), (1, 1)),))
        self.assertEqual(sinking(draw((5, 1)), SURE), (((5, 1), (2, 1), (1, 1)),))
        self.assertEqual([lift(SURE, draw((5, 1))), spread(SURE, draw((5, 1)))], [None, None])
        self.assertIsNone(sinking(SURE, draw((5, 1))))

    def test_draws_of_64_pairs(self):
        random = some_random(7)
        one = even(*sorted(random.sample(range(1000), 64)))
        two = even(*sorted(random.sample(range(1000), 64)))
        low = min(one[0][0][0], two[0][0][0]) - 1
        widened = draw(*[(low, "1/2")] + [(value + 2000, Fraction(1, 126)) for value, _ in table(two)[1:]])
        self.check_spread(widened, one)
        self.check_spread(widened, two)
        turned = draw(*[(-value, chance) for value, chance in table(widened)[::-1]])
        for other in (one, two):
            upside = draw(*[(-value, chance) for value, chance in table(other)[::-1]])
            self.check_sinking(upside, turned)

    def test_spreads_and_sinkings_of_equal_means_keep_each_mean(self):
        for one, two in steps_between(5, 40):
            if sum(v * c for v, c in table(one)) == sum(v * c for v, c in table(two)) and bold(one, two):
                for start, mean in self.means(self.check_transfer(spread(one, two), two, one)).items():
                    self.assertEqual(mean, start)
                for start, mean in self.means(self.check_transfer(sinking(two, one), two, one)).items():
                    self.assertEqual(mean, start)

    def test_moves_by_a_number_are_lifts(self):
        random = some_random(8)
        for _ in range(30):
            one, by = random_draw(random, 6), random_number(random)
            up = draw(*[(value + abs(fraction(by)), chance) for value, chance in table(one)])
            self.check_lift(up, one)
            self.check_spread(up, one)
            self.check_sinking(up, one)


if __name__ == "__main__":
    unittest.main()
