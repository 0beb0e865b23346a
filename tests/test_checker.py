import unittest
from fractions import Fraction

from placeworths.certificates import (
    certify_at_least, certify_at_most, certify_draws, certify_ends, certify_stop, certify_strike, certify_worth,
)
from placeworths.checker import accepts
from placeworths.looks import strike
from placeworths.orders import never_less
from placeworths.stops import worths_from
from placeworths.webrows import trap_of
from placeworths.webs import Web
from placeworths.worths import worths
from tests.checkhelpers import bent, by_rules
from tests.helpers import Nasty, draw, even, fraction, number, odd_values, random_draw, random_number, some_random
from tests.test_looks import FREE, NEAR, WIDE, random_box
from tests.test_stops import random_row
from tests.webhelpers import DUEL, ENDS, STREET, some_webs

COIN, SURE, THIRD = even(0, 4), draw((2, 1)), draw((0, "2/3"), (9, "1/3"))
DRIFT = Web.read("a chance a:1/3 b:1/3 y:1/3\nb chance a:1/2 z:1/2\ny end 0/1\nz end 1/1")
SMALL = Web.read("a ours b:1/2 x:0/1\nb coin x y\nc theirs b:0/1 y:-1/3\nx end 1/1\ny end 3/1")
TRAPPED = (("a", "ours", (("b", (0, 1)), ("x", (0, 1)))), ("b", "chance", (("a", (1, 1)),)), ("x", "end", (0, 1)))


def certified():
    """Pairs of a claim and a paper, of each word."""
    return [
        certify_worth(STREET, "a"), certify_worth(DUEL, "b"), certify_worth(SMALL, "c"), certify_worth(ENDS, "x"),
        certify_at_least(STREET, "b", (2, 1)), certify_at_least(SMALL, "a", (3, 2)),
        certify_at_most(STREET, "b", (3, 1)), certify_at_most(SMALL, "a", (7, 1)),
        (("trap", DUEL.rows, ("a", "b")), ()), (("trap", TRAPPED, ("a", "b")), ()),
        certify_draws(even(1, 5), COIN), certify_draws(COIN, SURE), certify_draws(SURE, COIN),
        certify_draws(COIN, COIN), certify_stop((COIN, THIRD), (0, 1)), certify_stop((SURE,), (5, 2)),
        certify_strike(WIDE), certify_strike(FREE), certify_ends(DRIFT, "a"), certify_ends(DRIFT, "y"),
        certify_ends(ENDS, "x"),
    ]


class Bent(unittest.TestCase):
    """The checker held against the rules themselves, on right claims and on bent ones."""

    def check(self, claim, paper):
        told = accepts(claim, paper)
        self.assertIs(told, by_rules(claim, paper), (claim, paper))
        return told

    def test_each_word_is_there_and_accepted(self):
        words = set()
        for claim, paper in certified():
            self.assertIs(self.check(claim, paper), True)
            words.add(claim[0])
        self.assertEqual(words, {
            "worth", "at least", "at most", "trap", "never less", "less", "stop", "strike", "ends"})

    def test_claims_bent_at_each_point(self):
        counts = {True: 0, False: 0}
        for claim, paper in certified():
            for other in bent(claim):
                counts[self.check(other, paper)] += 1
        self.assertTrue(counts[True] > 10 and counts[False] > 4000, counts)

    def test_papers_bent_at_each_point(self):
        counts = {True: 0, False: 0}
        for claim, paper in certified():
            for other in bent(paper):
                counts[self.check(claim, other)] += 1
        self.assertTrue(counts[True] > 5 and counts[False] > 800, counts)

    def test_papers_and_claims_exchanged(self):
        pairs = certified()
        for claim, _ in pairs:
            for _, paper in pairs:
                self.check(claim, paper)
            for other in ("worth", "at least", "at most", "trap", "never less", "less", "stop", "strike", "ends", "w"):
                for _, paper in pairs:
                    self.check((other, *claim[1:]), paper)

    def test_every_value_for_claim_and_paper(self):
        values = odd_values() + [Web, DUEL, DUEL.rows, Nasty(), (Nasty(),), ("worth",), ("worth", Nasty(), "a", (1, 1))]
        pairs = certified()
        for value in values:
            for other in values:
                self.assertIs(accepts(value, other), False)
            for claim, paper in pairs:
                self.assertIs(accepts(claim=value, paper=paper), False)
                self.assertIs(accepts(claim, value), False)
                for at in range(len(claim)):
                    self.check(claim[:at] + (value,) + claim[at + 1:], paper)
                for at in range(0 if claim[0] == "less" else len(paper)):
                    self.assertIs(accepts(claim, paper[:at] + (value,) + paper[at + 1:]), False)

    def test_claims_that_are_no_tuples_or_have_no_word(self):
        for claim, paper in certified():
            for value in (list(claim), claim[1:], (), (claim,), claim + (paper,), claim + ((),), claim[::-1], claim[0],
                          (claim[0].upper(), *claim[1:]), (claim[0] + " ", *claim[1:]), (claim[0].encode(), *claim[1:])):
                self.assertIs(accepts(value, paper), False)

    def test_what_the_checker_is_given_is_not_changed(self):
        rows, paper = [list(row) for row in STREET.rows], [[2, 1]]
        accepts(("worth", rows, "a", [2, 1]), paper)
        self.assertEqual([rows, paper], [[list(row) for row in STREET.rows], [[2, 1]]])


class Webs(unittest.TestCase):
    def nudged(self, random, values):
        """Numbers near these."""
        steps = (0, 0, 0, 0, Fraction(1, 3), Fraction(-1, 2), 1, -1)
        return tuple(number(fraction(one) + random.choice(steps)) for one in values)

    def test_worths_and_no_other_numbers(self):
        random = some_random(1)
        for web in some_webs(random, 120, inner=5, ends=3):
            told = worths(web)
            for place, value in zip(web.places, told):
                self.assertIs(accepts(("worth", web.rows, place, value), told), True)
                other = number(fraction(value) + 1)
                self.assertIs(accepts(("worth", web.rows, place, other), told), False)
                paper = self.nudged(random, told)
                for one in {value, paper[web.places.index(place)]}:
                    self.assertIs(accepts(("worth", web.rows, place, one), paper), one == value and paper == told)

    def test_bounds_that_are_accepted_are_true(self):
        random = some_random(2)
        seen = {}
        for web in some_webs(random, 200, inner=5, ends=3):
            told = worths(web)
            for _ in range(12):
                at = random.randrange(len(told))
                low = min(Fraction(0), Fraction(random.randint(-3, 1), 2))
                papers = (
                    tuple(number(fraction(one) + low) for one in told), tuple(number(fraction(one) - low) for one in told),
                    self.nudged(random, told),
                )
                paper = random.choice(papers)
                bound = random.choice((paper[at], told[at], random_number(random)))
                for word, sign in (("at least", 1), ("at most", -1)):
                    claim = (word, web.rows, web.places[at], bound)
                    good = accepts(claim, paper)
                    self.assertIs(good, by_rules(claim, paper))
                    seen[word, good] = seen.get((word, good), 0) + 1
                    if good:
                        self.assertTrue(web.is_ending)
                        self.assertTrue((fraction(told[at]) - fraction(bound)) * sign >= 0)
        self.assertTrue(all(seen[word, good] > 100 for word in ("at least", "at most") for good in (True, False)), seen)

    def test_coin_webs_that_are_not_ending_have_worths_but_no_bounds(self):
        told = worths(DUEL)
        self.assertIs(accepts(("worth", DUEL.rows, "a", (1, 3)), told), True)
        for word in ("at least", "at most"):
            self.assertIs(accepts((word, DUEL.rows, "a", (1, 3)), told), False)
        # By the rule alone all numbers of these two places would do, as long as they are alike.
        rows = (("a", "coin", ("b",)), ("b", "coin", ("a",)), ("x", "end", (0, 1)))
        self.assertIs(accepts(("worth", rows, "a", (5, 1)), ((5, 1), (5, 1), (0, 1))), False)

    def test_rows_with_traps(self):
        paper = ((7, 1), (7, 1), (0, 1))
        for word in ("worth", "at least", "at most"):
            self.assertIs(accepts((word, TRAPPED, "a", (7, 1)), paper), False)
            self.assertIs(accepts((word, TRAPPED, "x", (0, 1)), ((0, 1), (0, 1), (0, 1))), False)
        self.assertIs(accepts(("trap", TRAPPED, ("a", "b")), ()), True)
        alone = (("a", "chance", (("a", (1, 1)),)), ("x", "end", (0, 1)))
        self.assertIs(accepts(("ends", alone, "a", ((1, 1),)), (((1, 1),), ((1, 1),))), False)

    def test_traps_of_drawn_rows_against_the_greatest_one(self):
        random = some_random(3)
        for web in [*some_webs(random, 100, inner=5), DUEL]:
            rows = tuple(
                (place, "ours" if kind == "theirs" else kind, what) for place, kind, what in web.rows)
            greatest = trap_of(rows)
            inner = [row[0] for row in rows if row[1] != "end"]
            for _ in range(15):
                lot = tuple(sorted(random.sample(inner, random.randint(0, len(inner)))))
                good = accepts(("trap", rows, lot), ())
                self.assertIs(good, by_rules(("trap", rows, lot), ()))
                if good:
                    self.assertTrue(set(lot) <= set(greatest) and lot)
            self.assertIs(accepts(("trap", rows, greatest), ()), greatest != ())

    def test_traps_are_told_as_ascending_tuples(self):
        self.assertIs(accepts(("trap", DUEL.rows, ("a", "b")), ()), True)
        for lot in ((), ("a",), ("b",), ("b", "a"), ("a", "a", "b"), ("a", "b", "b"), ["a", "b"], ("a", "b", "x"), "ab",
                    ("a", "b", "c"), ("x",), ("a", None), ("a", Nasty()), ("a", "y")):
            self.assertIs(accepts(("trap", DUEL.rows, lot), ()), False)
        for paper in ([], None, ((),), "", 0, False, ("a",), {}, b""):
            self.assertIs(accepts(("trap", DUEL.rows, ("a", "b")), paper), False)

    def test_chances_to_come_to_ends(self):
        claim, paper = certify_ends(DRIFT, "b")
        self.assertEqual([claim[3], paper], [
            ((1, 3), (2, 3)), (((2, 3), (1, 3)), ((1, 3), (2, 3)), ((1, 1), (0, 1)), ((0, 1), (1, 1)))])
        wrong = ("ends", DRIFT.rows, "b", ((2, 3), (1, 3)))
        self.assertIs(accepts(wrong, paper), False)
        # Numbers that keep the rule inside, but not at the ends.
        half = (((1, 2), (1, 2)),) * 4
        self.assertIs(accepts(("ends", DRIFT.rows, "b", ((1, 2), (1, 2))), half), False)
        coin = Web.read("a coin x y\nx end 0/1\ny end 1/1")
        even_paper = (((1, 2), (1, 2)), ((1, 1), (0, 1)), ((0, 1), (1, 1)))
        self.assertIs(accepts(("ends", coin.rows, "a", ((1, 2), (1, 2))), even_paper), False)

    def test_webs_of_24_places_and_large_numbers(self):
        names = [first + second for first in "ab" for second in "0123456789abcd"][:24]
        huge = 10 ** 40 - 1
        rows = [(name, "chance", ((names[0], (huge - 1, huge)), (after, (1, huge)))) for name, after in zip(names, names[1:])]
        rows[0] = (names[0], "ours", ((names[1], (-1, huge)), (names[23], (0, 1))))
        web = Web((*rows, (names[23], "end", (huge, 7))))
        claim, paper = certify_worth(web, names[3]) if web.is_ending else (None, None)
        self.assertIs(accepts(claim, paper), True)
        top, bottom = claim[3]
        self.assertTrue(top > 10 ** 40)
        self.assertIs(accepts((*claim[:3], (top + bottom, bottom)), paper), False)
        self.assertIs(accepts(claim, ((paper[0][0] + paper[0][1], paper[0][1]), *paper[1:])), False)


class Draws(unittest.TestCase):
    def test_lifts_show_what_is_so(self):
        random = some_random(4)
        counts = {True: 0, False: 0}
        for _ in range(300):
            one, two = random_draw(random, 3, 0, 3, (1,)), random_draw(random, 3, 0, 3, (1,))
            claim, paper = certify_draws(one, two)
            good = never_less(one, two)
            counts[good] += 1
            self.assertEqual(claim, ("never less" if good else "less", one, two))
            self.assertIs(accepts(claim, paper), True)
            other = ("less" if good else "never less", one, two)
            self.assertIs(accepts(other, paper), False)
            for z in {value for part in (one, two) for value, _ in part} | {(-1, 1), (1, 2), (99, 1)}:
                self.assertIs(accepts(("less", one, two), z), by_rules(("less", one, two), z))
                self.assertFalse(good and accepts(("less", one, two), z))
        self.assertTrue(min(counts.values()) > 50, counts)

    def test_bent_transfers_of_drawn_draws(self):
        random = some_random(5)
        for _ in range(25):
            one, two = random_draw(random, 3, 0, 3, (1,)), random_draw(random, 3, 0, 3, (1,))
            claim, paper = certify_draws(one, two)
            for other in bent(paper):
                self.assertIs(accepts(claim, other), by_rules(claim, other))

    def test_other_lifts_than_the_one_that_is_made(self):
        claim = ("never less", even(4, 5), even(1, 2))
        one, two = ((1, 1), (4, 1)), ((2, 1), (5, 1))
        straight = ((*one, (1, 2)), (*two, (1, 2)))
        crossed = (((1, 1), (5, 1), (1, 2)), ((2, 1), (4, 1), (1, 2)))
        all_four = (
            ((1, 1), (4, 1), (1, 8)), ((1, 1), (5, 1), (3, 8)), ((2, 1), (4, 1), (3, 8)), ((2, 1), (5, 1), (1, 8)))
        for paper in (straight, crossed, all_four):
            self.assertIs(accepts(claim, paper), True)
            self.assertIs(accepts(claim, paper[::-1]), False)
        doubled = ((*one, (1, 4)), (*one, (1, 4)), (*two, (1, 2)))
        zero = ((*one, (1, 2)), ((1, 1), (5, 1), (0, 1)), (*two, (1, 2)))
        negative = (((1, 1), (4, 1), (3, 4)), ((1, 1), (5, 1), (-1, 4)), ((2, 1), (4, 1), (-1, 4)), (*two, (3, 4)))
        for paper in (doubled, zero, negative, straight[:1], straight + ((*two, (1, 2)),), ()):
            self.assertIs(accepts(claim, paper), False)
        # A transfer that lowers a number is none that shows this.
        self.assertIs(accepts(("never less", even(0, 5), even(1, 2)), (
            ((1, 1), (0, 1), (1, 2)), ((2, 1), (5, 1), (1, 2)))), False)

    def test_draws_of_64_pairs_and_of_65(self):
        one, two = even(*range(1, 65)), even(*range(64))
        claim, paper = certify_draws(one, two)
        self.assertEqual([claim[0], accepts(claim, paper)], ["never less", True])
        more = even(*range(65))
        self.assertIs(accepts(("less", two, more), (0, 1)), False)
        self.assertIs(accepts(("less", two, one), (0, 1)), True)


class StopsAndStrikes(unittest.TestCase):
    def test_stops(self):
        random = some_random(6)
        for _ in range(60):
            row, rest = random_row(random, 4), random_number(random)
            claim, paper = certify_stop(row, rest)
            self.assertEqual([claim, paper], [("stop", row, rest, worths_from(row, rest)[0]), worths_from(row, rest)])
            self.assertIs(accepts(claim, paper), True)
            at = random.randrange(len(paper))
            wrong = paper[:at] + (number(fraction(paper[at]) + random.choice((1, -1))),) + paper[at + 1:]
            self.assertIs(accepts(claim, wrong), False)
            self.assertIs(accepts(("stop", row, wrong[-1], wrong[0]), wrong), by_rules(
                ("stop", row, wrong[-1], wrong[0]), wrong))
            self.assertIs(accepts(("stop", row * 7, rest, paper[0]), paper), False)

    def test_strikes(self):
        random = some_random(7)
        for _ in range(150):
            box = random_box(random)
            told = strike(box)
            self.assertIs(accepts(("strike", box, told), ()), True)
            for value in {value for value, _ in box[0]} | {random_number(random) for _ in range(3)}:
                self.assertIs(accepts(("strike", box, value), ()), value == told)

    def test_the_strike_of_a_free_box_is_its_greatest_number_alone(self):
        self.assertIs(accepts(("strike", (COIN, (0, 1)), (4, 1)), ()), True)
        for value in ((5, 1), (3, 1), (0, 1), (401, 100)):
            self.assertIs(accepts(("strike", (COIN, (0, 1)), value), ()), False)
        self.assertIs(accepts(("strike", NEAR, (6, 1)), ()), True)


if __name__ == "__main__":
    unittest.main()
