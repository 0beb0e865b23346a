import unittest
from fractions import Fraction

from placeworths.draws import (
    capped, chance_above, chance_of, draw_in, draw_text, excess, greatest_of, mean, mixed, moved, scaled, summed,
)
from placeworths.errors import InvalidChance, InvalidDraw, InvalidDraws, InvalidNumber, InvalidText, TooMany
from tests.helpers import (
    Nasty, check_given, check_signature, draw, edits, even, fraction, made_of, number, odd_values, outcomes, points,
    raised, random_draw, random_number, some_random, table, wrong_draws, wrong_numbers, wrong_rows,
)

COIN = draw((0, "1/2"), (4, "1/2"))
SURE = draw((2, 1))
DRAW = ("draw", COIN, wrong_draws(), InvalidDraw)
OTHER = ("other", SURE, wrong_draws(), InvalidDraw)
NUMBER = ("number", (1, 2), wrong_numbers(), InvalidNumber)


def wrong_chances():
    """Values that are no tuple of two chances with the sum 1."""
    half = (1, 2)
    return odd_values() + [
        (), 1, half, [half, half], (half,), (half, half, (0, 1)), ((1, 1),), (half, (1, 3)), ((1, 1), (1, 1)),
        ((3, 2), (-1, 2)), ((-1, 1), (2, 1)), (half, [1, 2]), (half, (2, 4)), ((0, 1), True), ((0, 1), 1),
        ((0, 1), (True, 1)), ((0, 2), (1, 1)), ((0, 1), (1, 1), (0, 1)), ((0, 1), (0, 1)), (Nasty(), (1, 1)),
        (half, None), {half: half}, ("1/2", "1/2"), (half, (-1, -2)),
    ]


class Forms(unittest.TestCase):
    def test_every_signature_with_a_draw(self):
        check_signature(self, mean, [DRAW])
        for function in (capped, excess, chance_above, chance_of, moved, scaled):
            check_signature(self, function, [DRAW, NUMBER])
        check_signature(self, summed, [DRAW, OTHER])
        check_signature(self, draw_text, [DRAW])

    def test_every_signature_with_draws(self):
        draws = ("draws", (COIN, SURE), wrong_rows(), InvalidDraws)
        check_signature(self, greatest_of, [draws])
        check_signature(self, mixed, [draws, ("chances", ((1, 3), (2, 3)), wrong_chances(), InvalidChance)])

    def test_draws_of_1_and_of_64_pairs_are_draws_and_of_65_are_none(self):
        self.assertEqual(mean(draw(("-3/2", 1))), (-3, 2))
        self.assertEqual(mean(even(*range(64))), (63, 2))
        many = even(*range(65))
        check_given(self, lambda: mean(many), InvalidDraw, many)

    def test_draws_of_one_and_of_six_are_taken_and_seven_are_not(self):
        self.assertEqual(greatest_of((COIN,)), COIN)
        self.assertEqual(greatest_of((SURE,) * 6), SURE)
        seven = (SURE,) * 7
        check_given(self, lambda: greatest_of(seven), InvalidDraws, seven)
        check_given(self, lambda: mixed(seven, ((1, 7),) * 7), InvalidDraws, seven)

    def test_ascending_is_meant_of_numbers_not_of_pairs(self):
        rising = (((-1, 2), (1, 4)), ((1, 3), (1, 4)), ((1, 2), (1, 4)), ((5, 7), (1, 4)))
        self.assertEqual(mean(rising), number(fraction((1, 4)) * (Fraction(1, 3) + Fraction(5, 7))))

    def test_numbers_of_any_size_are_numbers(self):
        big = draw((-10 ** 39, "1/2"), (10 ** 39, "1/2"))
        self.assertEqual(mean(big), (0, 1))
        self.assertEqual(excess(big, (0, 1)), (5 * 10 ** 38, 1))


class Measures(unittest.TestCase):
    def test_all_measures_at_below_between_and_above_the_numbers(self):
        random = some_random(1)
        for _ in range(60):
            one = random_draw(random)
            pairs = table(one)
            self.assertEqual(fraction(mean(one)), sum(value * chance for value, chance in pairs))
            for point in points(one):
                z = fraction(point)
                self.assertEqual(capped(one, point), number(sum(min(value, z) * chance for value, chance in pairs)))
                self.assertEqual(excess(one, point), number(sum(max(value - z, 0) * chance for value, chance in pairs)))
                self.assertEqual(chance_above(one, point), number(sum(chance for value, chance in pairs if value > z)))
                self.assertEqual(chance_of(one, point), number(sum(chance for value, chance in pairs if value == z)))

    def test_capped_and_excess_have_the_mean_as_their_sum(self):
        random = some_random(2)
        for _ in range(40):
            one, point = random_draw(random), random_number(random)
            self.assertEqual(fraction(capped(one, point)) + fraction(excess(one, point)), fraction(mean(one)))

    def test_numbers_0_and_below_0(self):
        low = draw((-3, "1/3"), (-1, "1/3"), (0, "1/3"))
        self.assertEqual([mean(low), capped(low, (-2, 1)), excess(low, (-2, 1))], [(-4, 3), (-7, 3), (1, 1)])
        self.assertEqual([chance_above(low, (-1, 1)), chance_of(low, (-1, 1))], [(1, 3), (1, 3)])
        self.assertEqual([chance_above(low, (0, 1)), chance_above(low, (-4, 1))], [(0, 1), (1, 1)])


class Made(unittest.TestCase):
    def test_sums_and_greatest_ones_against_all_ways_to_come(self):
        random = some_random(3)
        for _ in range(50):
            one, two = random_draw(random), random_draw(random)
            self.assertEqual(summed(one, two), made_of([(sum(way), chance) for way, chance in outcomes([one, two])]))
            draws = tuple(random_draw(random, 3) for _ in range(random.randint(1, 4)))
            self.assertEqual(greatest_of(draws), made_of([(max(way), chance) for way, chance in outcomes(draws)]))

    def test_mixed_ones_against_all_ways_to_come(self):
        random = some_random(4)
        for _ in range(50):
            draws = tuple(random_draw(random) for _ in range(random.randint(1, 6)))
            parts = [random.randint(0, 3) for _ in draws]
            parts[random.randrange(len(parts))] += 1
            chances = [Fraction(part, sum(parts)) for part in parts]
            ways = [(value, part * chance) for one, part in zip(draws, chances) for value, chance in table(one)]
            self.assertEqual(mixed(draws, tuple(number(chance) for chance in chances)), made_of(ways))

    def test_mixed_with_chances_0_and_1(self):
        self.assertEqual(mixed((COIN, SURE), ((0, 1), (1, 1))), SURE)
        self.assertEqual(mixed((COIN, SURE, COIN), ((1, 1), (0, 1), (0, 1))), COIN)
        self.assertEqual(mixed((SURE,), ((1, 1),)), SURE)

    def test_moved_and_scaled_ones(self):
        random = some_random(5)
        for _ in range(50):
            one, by = random_draw(random), random_number(random)
            ways = table(one)
            self.assertEqual(moved(one, by), made_of([(value + fraction(by), chance) for value, chance in ways]))
            self.assertEqual(scaled(one, by), made_of([(value * fraction(by), chance) for value, chance in ways]))

    def test_alike_numbers_are_put_together(self):
        self.assertEqual(summed(even(0, 1), even(0, 1)), draw((0, "1/4"), (1, "1/2"), (2, "1/4")))
        self.assertEqual(scaled(even(-1, 0, 5), (0, 1)), draw((0, 1)))
        self.assertEqual(greatest_of((even(0, 2), even(1, 2))), draw((1, "1/4"), (2, "3/4")))
        self.assertEqual(mixed((even(0, 2), even(1, 2)), ((1, 2), (1, 2))), draw((0, "1/4"), (1, "1/4"), (2, "1/2")))

    def test_numbers_that_cannot_come_are_left_out_of_a_greatest_one(self):
        self.assertEqual(greatest_of((even(0, 1, 5), SURE)), draw((2, "2/3"), (5, "1/3")))
        self.assertEqual(greatest_of((even(-2, -1), even(0, 9))), even(0, 9))


class TooLarge(unittest.TestCase):
    def check_too_many(self, call):
        self.assertEqual(raised(self, call, TooMany).limit, 64)

    def test_sums_of_64_and_of_65_pairs(self):
        self.assertEqual(len(summed(even(*range(8)), even(*range(0, 64, 8)))), 64)
        self.assertEqual(len(summed(even(*range(64)), SURE)), 64)
        self.check_too_many(lambda: summed(even(*range(64)), even(0, 1)))
        self.check_too_many(lambda: summed(even(*range(13)), even(*range(0, 65, 13))))
        self.assertEqual(len(summed(even(*range(32)), even(*range(33)))), 64)

    def test_greatest_ones_of_64_and_of_65_pairs(self):
        evens = even(*range(0, 66, 2))
        self.assertEqual(len(greatest_of((evens, even(*range(1, 63, 2))))), 63)
        self.assertEqual(len(greatest_of((evens, even(*range(-1, 61, 2))))), 63)
        self.assertEqual(len(greatest_of((evens, even(*range(-1, 63, 2))))), 64)
        self.check_too_many(lambda: greatest_of((evens, even(*range(-1, 65, 2)))))
        self.assertEqual(len(greatest_of((evens, even(*range(1, 65, 2))))), 64)
        self.check_too_many(lambda: greatest_of((evens, even(*range(1, 67, 2)))))

    def test_mixed_ones_of_64_and_of_65_pairs(self):
        halves = ((1, 2), (1, 2))
        self.assertEqual(len(mixed((even(*range(32)), even(*range(32, 64))), halves)), 64)
        self.check_too_many(lambda: mixed((even(*range(32)), even(*range(32, 65))), halves))
        self.assertEqual(len(mixed((even(*range(32)), even(*range(31, 64))), halves)), 64)
        self.assertEqual(len(mixed((even(*range(32)), even(*range(32, 65))), ((0, 1), (1, 1)))), 33)

    def test_too_many_comes_last(self):
        many = even(*range(64))
        wrong = even(*range(65))
        check_given(self, lambda: summed(many, wrong), InvalidDraw, wrong)
        chances = ((1, 2), (1, 3))
        check_given(self, lambda: mixed((many, moved(many, (99, 1))), chances), InvalidChance, chances)


class Texts(unittest.TestCase):
    def test_texts_and_back(self):
        self.assertEqual(draw_text(draw(("-1/2", "1/3"), (0, "1/3"), (7, "1/3"))), "-1/2:1/3 0/1:1/3 7/1:1/3")
        random = some_random(6)
        for _ in range(60):
            one = random_draw(random)
            text = " ".join(
                f"{value.numerator}/{value.denominator}:{chance.numerator}/{chance.denominator}"
                for value, chance in table(one)
            )
            self.assertEqual(draw_text(one), text)
            self.assertEqual(draw_in(text), one)
            self.assertEqual(draw_in(text=text), one)

    def test_what_is_no_text(self):
        for value in odd_values():
            check_given(self, lambda: draw_in(value), InvalidText, value)
        for value in (COIN, (), 1, [draw_text(COIN)], b"0/1:1/1"):
            check_given(self, lambda: draw_in(value), InvalidText, value)

    def test_texts_with_something_wrong(self):
        for text in (
            "0/1:1/1 ", " 0/1:1/1", "0/1:1/1\n", "0/1 :1/1", "0/1: 1/1", "0 /1:1/1", "0/1:1/1:", ":0/1:1/1", "0/1",
            "0/1:", ":1/1", "0:1", "0/1:1", "0:1/1", "0/:1/1", "/1:1/1", "0/1:/1", "0/1:1/", "00/1:1/1", "0/01:1/1",
            "0/1:01/1", "-0/1:1/1", "+1/1:1/1", "--1/1:1/1", "1/-1:1/1", "-1/-1:1/1", "1/1:-1/1", "1/1:+1/1", "1/0:1/1",
            "0/2:1/1", "2/2:1/1", "2/4:1/1", "0/1:2/2", "0/1:2/1", "0/1:1/2", "0/1:0/1 1/1:1/1", "0/1:1/1 1/1:0/1",
            "0/1:1/2  4/1:1/2", "0/1:1/2\n4/1:1/2", "0/1:1/2,4/1:1/2", "4/1:1/2 0/1:1/2", "0/1:1/2 0/1:1/2",
            "0/1:1/3 4/1:1/3", "0/1:2/4 4/1:1/2", "0/1:1/1/1", "0/1/1:1/1", "0.0/1:1/1", "1_0/1:1/1", "a/1:1/1",
            "0/1:1/1 x", "0/1;1/1", "1/1:0/1", "0/1:1/2 4/1:1/2 ", "-/1:1/1", "0-/1:1/1", "1e1/1:1/1", "0x1/1:1/1",
            "\t0/1:1/1", "0/1:1/1 0/1:1/1", "1:1/0/1", "'0/1:1/1'", "\u0661/1:1/1", "\u00b2/1:1/1",
        ):
            with self.subTest(text=text):
                check_given(self, lambda: draw_in(text), InvalidText, text)

    def test_each_text_with_a_sign_left_out_put_in_or_exchanged_is_none_or_that_of_another_draw(self):
        text = "-1/2:1/6 0/1:1/3 10/1:1/2"
        self.assertEqual(draw_text(draw_in(text)), text)
        for other in edits(text, "-/: 0123\n"):
            try:
                self.assertEqual(draw_text(draw_in(other)), other)
            except InvalidText as error:
                self.assertIs(error.given, other)

    def test_64_and_65_pairs_in_a_text(self):
        words = [f"{k}/1:1/65" for k in range(65)]
        many = " ".join(words)
        check_given(self, lambda: draw_in(many), InvalidText, many)
        self.assertEqual(draw_in(draw_text(even(*range(64)))), even(*range(64)))

    def test_what_was_told_has_a_text_whatever_its_size(self):
        large = scaled(even(-1, 0, 3), (10 ** 39 + 7, 10 ** 39 - 1))
        for _ in range(7):
            large = scaled(large, large[2][0])
        self.assertGreater(large[2][0][0], 10 ** 4900)
        self.assertEqual(draw_in(draw_text(large)), large)
        word = draw_text(large).split(" ")[0]
        self.assertTrue(word.startswith("-") and word.endswith(":1/3"))
        for exponent in (63, 64, 65, 127, 128, 129, 640):
            for size in (10 ** exponent, 10 ** exponent - 1, 10 ** exponent + 1, 7 * 10 ** exponent):
                one = draw((size, 1))
                self.assertEqual(draw_text(one), f"{size}/1:1/1")
                self.assertEqual(draw_in(draw_text(one)), one)


if __name__ == "__main__":
    unittest.main()
