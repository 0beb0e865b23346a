import unittest
from fractions import Fraction

from placeworths.certificates import (
    certify_at_least, certify_at_most, certify_draws, certify_ends, certify_stop, certify_strike, certify_worth,
)
from placeworths.chains import ends_from
from placeworths.checker import accepts
from placeworths.errors import (
    InvalidBox, InvalidDraw, InvalidNumber, InvalidRow, NotAChain, NotAWeb, NotEnding, UnknownPlace,
)
from placeworths.looks import strike
from placeworths.orders import less_at, never_less
from placeworths.stops import worths_from
from placeworths.webs import Web
from placeworths.worths import worth, worths
from tests.checkhelpers import by_rules
from tests.helpers import (
    check_given, check_signature, draw, even, fraction, number, raised, random_draw, random_number, some_random,
    wrong_draws, wrong_numbers, wrong_rows,
)
from tests.test_looks import WIDE, random_box, wrong_boxes
from tests.test_stops import random_row
from tests.webhelpers import DUEL, ENDS, STREET, some_webs, wrong_places, wrong_webs

COIN, SURE = even(0, 4), draw((2, 1))
DRIFT = Web.read("a chance a:1/3 b:1/3 y:1/3\nb chance a:1/2 z:1/2\ny end 0/1\nz end 1/1")
ALL_KINDS = Web.read("a ours b:1/2 x:0/1\nb coin c x\nc theirs d:0/1 y:-1/3\nd chance x:1/4 y:3/4\nx end 1/1\ny end 3/1")


class Certificates(unittest.TestCase):
    def check(self, told, claim):
        """Checks that what is told is a pair of this claim and of a paper that is accepted."""
        self.assertIs(type(told), tuple)
        self.assertEqual([len(told), told[0]], [2, claim])
        self.assertIs(accepts(*told), True)
        self.assertIs(by_rules(*told), True)

    def test_worths_of_drawn_webs(self):
        for web in [STREET, DUEL, ENDS, DRIFT, ALL_KINDS, *some_webs(some_random(1), 120, inner=6, ends=3)]:
            for place in web.places:
                told = certify_worth(web, place)
                self.check(told, ("worth", web.rows, place, worth(web, place)))
                self.assertEqual(told[1], worths(web))

    def test_bounds_just_at_the_worth_and_beside(self):
        random = some_random(2)
        seen = 0
        for web in [STREET, ENDS, DRIFT, ALL_KINDS, *some_webs(random, 100, inner=5, ends=3)]:
            for place in web.places:
                value = fraction(worth(web, place))
                for step in (0, Fraction(1, 10 ** 12), Fraction(-1, 10 ** 12), 3, -3):
                    bound = number(value + step)
                    if not web.is_ending:
                        self.assertEqual(vars(raised(self, lambda: certify_at_least(web, place, bound), NotEnding)), {})
                        self.assertEqual(vars(raised(self, lambda: certify_at_most(web, place, bound), NotEnding)), {})
                        continue
                    seen += 1
                    least, most = certify_at_least(web, place, bound), certify_at_most(web, place, bound)
                    if step <= 0:
                        self.check(least, ("at least", web.rows, place, bound))
                    else:
                        self.assertIsNone(least)
                    if step >= 0:
                        self.check(most, ("at most", web.rows, place, bound))
                    else:
                        self.assertIsNone(most)
        self.assertTrue(seen > 500)

    def test_coin_webs(self):
        ending = Web.read("a coin b x\nb coin x y\nx end -1/4\ny end 2/1")
        self.check(certify_at_least(ending, "a", (0, 1)), ("at least", ending.rows, "a", (0, 1)))
        self.check(certify_worth(DUEL, "a"), ("worth", DUEL.rows, "a", (1, 3)))
        for function in (certify_at_least, certify_at_most):
            for place in DUEL.places:
                raised(self, lambda: function(DUEL, place, (1, 3)), NotEnding)

    def test_that_a_web_is_not_ending_is_looked_for_last(self):
        for function in (certify_at_least, certify_at_most):
            for wrong in wrong_numbers():
                check_given(self, lambda: function(DUEL, "a", wrong), InvalidNumber, wrong)
            check_given(self, lambda: function(DUEL, "q", None), UnknownPlace, "q")
            raised(self, lambda: function(DUEL, "a", (99, 1)), NotEnding)
            raised(self, lambda: function(DUEL, "a", (-99, 1)), NotEnding)

    def test_draws(self):
        random = some_random(3)
        words = {"never less": 0, "less": 0}
        pairs = [(random_draw(random, 4, 0, 4, (1, 2)), random_draw(random, 3, 0, 3, (1, 2))) for _ in range(250)]
        for one, two in [(COIN, SURE), (SURE, COIN), (COIN, COIN), (even(1, 4), COIN), *pairs]:
            word = "never less" if never_less(one, two) else "less"
            told = certify_draws(one, two)
            self.check(told, (word, one, two))
            words[word] += 1
            if word == "less":
                self.assertEqual(told[1], less_at(one, two))
        self.assertTrue(min(words.values()) > 50, words)

    def test_stops(self):
        random = some_random(4)
        for _ in range(100):
            row, rest = random_row(random, 6), random_number(random)
            told = certify_stop(row, rest)
            self.check(told, ("stop", row, rest, worths_from(row, rest)[0]))
            self.assertEqual(told[1], worths_from(row, rest))

    def test_strikes(self):
        random = some_random(5)
        for _ in range(150):
            box = random_box(random, 4)
            told = certify_strike(box)
            self.check(told, ("strike", box, strike(box)))
            self.assertEqual(told[1], ())

    def test_chances_to_come_to_ends(self):
        random = some_random(6)
        webs = [web for web in some_webs(random, 300, inner=6, ends=4, mixes=(("chance",),))]
        for web in [DRIFT, ENDS, *webs]:
            for place in web.places:
                told = certify_ends(web, place)
                found = dict(ends_from(web, place))
                chances = tuple(found.get(end, (0, 1)) for end in web.ends)
                self.check(told, ("ends", web.rows, place, chances))
                self.assertEqual([len(told[1]), {len(line) for line in told[1]}], [len(web.places), {len(web.ends)}])

    def test_webs_that_are_no_chains(self):
        for web in (STREET, DUEL, ALL_KINDS):
            for place in web.places:
                self.assertEqual(vars(raised(self, lambda: certify_ends(web, place), NotAChain)), {})
        for wrong in wrong_places():
            check_given(self, lambda: certify_ends(STREET, wrong), UnknownPlace, wrong)

    def test_signatures(self):
        web = ("web", STREET, wrong_webs(), NotAWeb)
        place = ("place", "a", wrong_places(), UnknownPlace)
        bound = ("number", (2, 1), wrong_numbers(), InvalidNumber)
        check_signature(self, certify_worth, [web, place])
        check_signature(self, certify_at_least, [web, place, bound])
        check_signature(self, certify_at_most, [web, place, bound])
        check_signature(self, certify_ends, [("web", DRIFT, wrong_webs(), NotAWeb), place])
        check_signature(self, certify_draws, [
            ("draw", COIN, wrong_draws(), InvalidDraw), ("other", SURE, wrong_draws(), InvalidDraw)])
        check_signature(self, certify_stop, [
            ("row", (COIN,), wrong_rows(), InvalidRow), ("rest", (0, 1), wrong_numbers(), InvalidNumber)])
        check_signature(self, certify_strike, [("box", WIDE, wrong_boxes(), InvalidBox)])


if __name__ == "__main__":
    unittest.main()
