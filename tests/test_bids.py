import unittest
from fractions import Fraction

from placeworths.bids import is_safe, need, needs, safe_range, step, winner
from placeworths.errors import (
    AtAnEnd, InvalidBid, InvalidPlace, InvalidShare, InvalidSide, NotAWeb, NotCoins, NotParts, UnknownPlace,
)
from placeworths.webs import Web
from placeworths.worths import best_arrows, turned, worth, worths
from tests.helpers import Nasty, check_given, check_signature, fraction, number, odd_values, raised, some_random
from tests.helpers import wrong_numbers
from tests.webhelpers import DUEL, ENDS, NAMES, STREET, random_web, wrong_places, wrong_webs

SIDES = ("first", "second")
LEVEL = Web.read("a coin x y\nb coin a x y\nx end 1/2\ny end 1/2\nz end 1/1")
LONG = Web.read("a coin b x\nb coin a c\nc coin b y\nx end 0/1\ny end 1/1")


def some_coin_webs(seed, count, inner=4, ends=3, bottom=3):
    """Coin webs, all ends of which are from 0 to 1."""
    random = some_random(seed)
    for _ in range(count):
        yield random_web(random, random.randint(1, inner), random.randint(1, ends), ("coin",), low=0, high=bottom,
                         bottom=bottom)


def shares(web, random):
    """Shares at, just beside and between all needs."""
    told = {fraction(one) for one in needs(web)}
    told |= {one + part for one in told for part in (Fraction(-1, 1000), Fraction(1, 1000), Fraction(1, 7))}
    told |= {Fraction(0), Fraction(1), Fraction(random.randint(0, 100), 100)}
    return [one for one in sorted(told) if 0 <= one <= 1]


def wins(due, share, side):
    return share > due if side == "first" else share < due


def goes_on(web, told, place, share, side, to, bid):
    """Whether a bid for an arrow keeps the player winning whatever the other one bids, by a look at all outcomes.

    The other one's bids are looked at where they are just as much, little more, and all there is: what is
    paid by the other one only helps.
    """
    had = share if side == "first" else 1 - share
    sign = -1 if side == "first" else 1
    if not wins(told[to], share + sign * bid, side):
        return False
    others = 1 - had
    for paid in {bid, (bid + others) / 2, others}:
        if bid <= paid <= others:
            if not all(wins(told[one], share - sign * paid, side) for one in web.arrows(place)):
                return False
    return True


class Needs(unittest.TestCase):
    def test_needs_are_one_less_the_worths_and_keep_their_rule(self):
        for web in some_coin_webs(1, 120, inner=7):
            told = {place: fraction(one) for place, one in zip(web.places, needs(web))}
            for place, kind, what in web.rows:
                self.assertEqual(told[place], 1 - fraction(worth(web, place)))
                self.assertEqual(need(web, place), number(told[place]))
                if kind == "end":
                    self.assertEqual(told[place], 1 - fraction(what))
                    raised(self, lambda: step(web, place), AtAnEnd)
                else:
                    low, high = min(told[to] for to in what), max(told[to] for to in what)
                    self.assertEqual([told[place], step(web, place)], [(low + high) / 2, number((high - low) / 2)])

    def test_equal_needs_of_all_arrows(self):
        self.assertEqual([needs(LEVEL), step(LEVEL, "a"), step(LEVEL, "b")],
                         [((1, 2), (1, 2), (1, 2), (1, 2), (0, 1)), (0, 1), (0, 1)])
        self.assertEqual(safe_range(LEVEL, "b", (2, 3), "first", "a"), ((-1, 6), (1, 6)))
        self.assertIs(is_safe(LEVEL, "b", (2, 3), "first", "a", (0, 1)), True)
        self.assertIs(is_safe(LEVEL, "b", (2, 3), "first", "a", (1, 6)), False)
        self.assertEqual(safe_range(LEVEL, "b", (1, 3), "second", "x"), ((-1, 6), (1, 6)))

    def test_webs_of_ends_alone(self):
        self.assertEqual([needs(ENDS), need(ENDS, "x"), winner(ENDS, "x", (1, 1)), winner(ENDS, "y", (0, 1))],
                         [((1, 1), (0, 1)), (1, 1), None, None])
        self.assertEqual([winner(ENDS, "y", (1, 10)), winner(ENDS, "x", (9, 10))], ["first", "second"])
        raised(self, lambda: step(ENDS, "x"), AtAnEnd)

    def test_coins_without_traps_and_24_places(self):
        rows = tuple((NAMES[at], "coin", (NAMES[at + 1], NAMES[at + 2])) for at in range(22))
        web = Web(rows + ((NAMES[22], "end", (0, 1)), (NAMES[23], "end", (1, 1))))
        told = [fraction(one) for one in needs(web)]
        self.assertEqual(told, [1 - fraction(one) for one in worths(web)])
        self.assertTrue(all(told[at] == (told[at + 1] + told[at + 2]) / 2 for at in range(22)))


class Winners(unittest.TestCase):
    def test_winners_at_above_and_below_the_need(self):
        random = some_random(2)
        for web in some_coin_webs(2, 40):
            for place in web.places:
                due = fraction(need(web, place))
                for share in shares(web, random):
                    expected = None if share == due else "first" if share > due else "second"
                    self.assertEqual(winner(web, place, number(share)), expected)

    def test_shares_0_and_1_and_just_the_need(self):
        self.assertEqual([winner(DUEL, "a", (0, 1)), winner(DUEL, "a", (1, 1)), winner(DUEL, "a", (2, 3))],
                         ["second", "first", None])
        self.assertEqual([winner(DUEL, "x", (1, 1)), winner(DUEL, "y", (0, 1)), winner(DUEL, "y", (1, 10 ** 6))],
                         [None, None, "first"])


class Safe(unittest.TestCase):
    def test_safe_bids_go_on_winning_and_no_others(self):
        random = some_random(3)
        counts = {True: 0, False: 0}
        for web in some_coin_webs(3, 60, inner=3):
            told = {place: fraction(one) for place, one in zip(web.places, needs(web))}
            for place in web.places:
                for to in web.arrows(place):
                    for share in random.sample(shares(web, random), 3):
                        for side in SIDES:
                            self.check_bids(web, told, place, share, side, to, counts)
        self.assertTrue(counts[True] > 200 and counts[False] > 200, counts)

    def check_bids(self, web, told, place, share, side, to, counts):
        had = share if side == "first" else 1 - share
        ends = safe_range(web, place, number(share), side, to)
        bids = {Fraction(0), had, had / 2, Fraction(1, 3), fraction(step(web, place))}
        if ends is not None:
            low, high = map(fraction, ends)
            self.assertTrue(low < high)
            bids |= {low, high, (low + high) / 2, low + Fraction(1, 5000), high - Fraction(1, 5000)}
        for bid in bids:
            if 0 <= bid <= had and bid.denominator <= 10 ** 6:
                safe = is_safe(web, place, number(share), side, to, number(bid))
                expected = wins(told[place], share, side) and goes_on(web, told, place, share, side, to, bid)
                self.assertIs(safe, expected)
                self.assertIs(safe, ends is not None and low < bid < high)
                counts[safe] += 1

    def test_the_ends_of_the_range(self):
        random = some_random(4)
        without = 0
        for web in some_coin_webs(4, 50):
            told = {place: fraction(one) for place, one in zip(web.places, needs(web))}
            for place in web.places:
                arrows = [told[to] for to in web.arrows(place)]
                for to in web.arrows(place):
                    for share in shares(web, random):
                        first = (number(max(arrows) - share), number(share - told[to]))
                        second = (number(share - min(arrows)), number(told[to] - share))
                        for side, ends in (("first", first), ("second", second)):
                            good = wins(told[place], share, side) and fraction(ends[0]) < fraction(ends[1])
                            without += wins(told[place], share, side) and not good
                            self.assertEqual(safe_range(web, place, number(share), side, to), ends if good else None)
        self.assertTrue(without > 10)

    def test_the_step_is_safe_exactly_for_who_wins(self):
        random = some_random(5)
        for web in some_coin_webs(5, 50):
            for place in web.places:
                if web.kind(place) == "coin":
                    # Greatest worths are least needs.
                    ours, theirs = best_arrows(web, place)
                    for share in shares(web, random):
                        for side, to in [("first", to) for to in ours] + [("second", to) for to in theirs]:
                            bid = step(web, place)
                            had = share if side == "first" else 1 - share
                            if fraction(bid) <= had and bid[1] <= 10 ** 6:
                                self.assertIs(is_safe(web, place, number(share), side, to, bid),
                                              winner(web, place, number(share)) == side)

    def test_whoever_bids_safely_goes_on_winning_whatever_is_bid(self):
        random = some_random(6)
        for start, side, share in (("a", "first", Fraction(4, 5)), ("b", "second", Fraction(2, 5)),
                                   ("c", "first", Fraction(3, 10))):
            self.assertEqual(winner(LONG, start, number(share)), side)
            for _ in range(30):
                self.play(random, start, side, share)

    def play(self, random, place, side, share):
        """Plays on, the other player bidding anything; the one who wins must stay winning, and be it at an end."""
        sign = -1 if side == "first" else 1
        for _ in range(8):
            if LONG.kind(place) == "end":
                break
            to = best_arrows(LONG, place)[0 if side == "first" else 1][0]
            bid = fraction(step(LONG, place))
            self.assertIs(is_safe(LONG, place, number(share), side, to, number(bid)), True)
            others = 1 - share if side == "first" else share
            against = min(others, Fraction(random.randint(0, 8), 8) * 2 * bid)
            if against > bid or against == bid and random.randint(0, 1):
                share, place = share - sign * against, random.choice(LONG.arrows(place))
            else:
                share, place = share + sign * bid, to
            self.assertTrue(wins(fraction(need(LONG, place)), share, side))

    def test_both_ends_and_just_beyond(self):
        ends = safe_range(DUEL, "b", (1, 2), "first", "y")
        self.assertEqual(ends, ((1, 6), (1, 2)))
        tried = (((1, 6), False), ((166667, 10 ** 6), True), ((1, 2), False), ((499999, 10 ** 6), True), ((1, 3), True),
                 ((0, 1), False), ((166666, 999997), False))
        for bid, safe in tried:
            self.assertIs(is_safe(DUEL, "b", (1, 2), "first", "y", bid), safe, bid)
        self.assertEqual(safe_range(DUEL, "a", (1, 2), "second", "x"), ((1, 6), (1, 2)))
        self.assertEqual(safe_range(DUEL, "b", (1, 2), "second", "y"), None)
        self.assertIs(is_safe(DUEL, "b", (1, 2), "second", "y", (1, 2)), False)

    def test_a_range_without_a_number_between(self):
        self.assertEqual([winner(DUEL, "b", (1, 2)), safe_range(DUEL, "b", (1, 2), "first", "a")], ["first", None])
        self.assertIs(is_safe(DUEL, "b", (1, 2), "first", "a", (1, 10)), False)
        self.assertEqual(safe_range(LEVEL, "a", (1, 2), "first", "x"), None)
        self.assertEqual(safe_range(DUEL, "b", (1, 3), "first", "y"), None)

    def test_shares_0_and_1(self):
        self.assertEqual(safe_range(DUEL, "a", (1, 1), "first", "b"), ((0, 1), (2, 3)))
        self.assertEqual(safe_range(DUEL, "a", (1, 1), "first", "x"), None)
        self.assertEqual(safe_range(DUEL, "b", (0, 1), "second", "a"), ((0, 1), (2, 3)))
        self.assertIs(is_safe(DUEL, "a", (1, 1), "first", "b", (0, 1)), False)
        self.assertIs(is_safe(DUEL, "a", (1, 1), "first", "b", (1, 10 ** 6)), True)


class Errors(unittest.TestCase):
    def setUp(self):
        self.web = ("web", DUEL, wrong_webs(), NotAWeb)
        self.place = ("place", "b", wrong_places(), UnknownPlace)
        parts = wrong_numbers() + [(-1, 2), (3, 2), (2, 1), (1, 10 ** 6 + 1), (500000, 10 ** 6 + 1), (-1, 10 ** 7)]
        self.share = ("share", (1, 2), parts, InvalidShare)
        sides = odd_values() + ["First", "ours", "theirs", ("first",), b"first", "third"]
        self.side = ("side", "first", sides, InvalidSide)
        self.to = ("to", "y", wrong_places(), UnknownPlace)
        self.bid = ("bid", (1, 3), parts + [(501, 1000)], InvalidBid)

    def test_every_signature(self):
        check_signature(self, need, [self.web, self.place])
        check_signature(self, needs, [self.web])
        check_signature(self, step, [self.web, self.place])
        check_signature(self, winner, [self.web, self.place, self.share])
        check_signature(self, safe_range, [self.web, self.place, self.share, self.side, self.to])
        check_signature(self, is_safe, [self.web, self.place, self.share, self.side, self.to, self.bid])

    def test_arrows_that_are_not_there(self):
        for place, to in (("b", "b"), ("b", "x"), ("a", "y"), ("x", "x"), ("x", "a")):
            check_given(self, lambda: safe_range(DUEL, place, (1, 2), "first", to), InvalidPlace, to)
            check_given(self, lambda: is_safe(DUEL, place, (1, 2), "first", to, None), InvalidPlace, to)
        check_given(self, lambda: safe_range(DUEL, "b", (1, 2), None, "b"), InvalidSide, None)
        check_given(self, lambda: is_safe(DUEL, "b", (1, 2), "first", "z", None), UnknownPlace, "z")
        check_given(self, lambda: safe_range(STREET, "a", (1, 2), "first", "a"), InvalidPlace, "a")

    def test_bids_up_to_the_share_of_the_player(self):
        for share, side, most, wrong in (
            ((1, 4), "first", (1, 4), (251, 1000)), ((1, 4), "second", (3, 4), (751, 1000)),
            ((0, 1), "first", (0, 1), (1, 10 ** 6)), ((1, 1), "second", (0, 1), (1, 10 ** 6)),
            ((1, 1), "first", (1, 1), (10 ** 6, 999999)), ((0, 1), "second", (1, 1), (3, 2)),
        ):
            self.assertIn(is_safe(DUEL, "b", share, side, "a", most), (True, False))
            check_given(self, lambda: is_safe(DUEL, "b", share, side, "a", wrong), InvalidBid, wrong)

    def test_bottoms_of_a_million_and_one_more(self):
        good, wrong = (333333, 10 ** 6), (333333, 10 ** 6 + 1)
        self.assertEqual(winner(DUEL, "b", good), "second")
        check_given(self, lambda: winner(DUEL, "b", wrong), InvalidShare, wrong)
        self.assertIs(is_safe(DUEL, "b", (1, 2), "first", "y", good), True)
        check_given(self, lambda: is_safe(DUEL, "b", (1, 2), "first", "y", wrong), InvalidBid, wrong)

    def calls(self, web, place, to):
        return [
            lambda: need(web, place), lambda: needs(web), lambda: step(web, place), lambda: winner(web, place, (1, 2)),
            lambda: safe_range(web, place, (1, 2), "first", to),
            lambda: is_safe(web, place, (1, 2), "second", to, (1, 4)),
        ]

    def test_other_kinds_and_other_numbers_come_last(self):
        mixed = Web.read("a coin b x\nb chance x:1/2 y:1/2\nx end 0/1\ny end 3/1")
        below, above = DUEL.with_number("x", (-1, 10 ** 9)), DUEL.with_number("y", (10 ** 9 + 1, 10 ** 9))
        for web, error in ((STREET, NotCoins), (mixed, NotCoins), (below, NotParts), (above, NotParts),
                           (turned(DUEL), NotParts)):
            for call in self.calls(web, "a", "b"):
                self.assertEqual(vars(raised(self, call, error)), {})
        for call in self.calls(ENDS.with_number("x", (2, 1)), "y", "y")[:2]:
            raised(self, call, NotParts)

    def test_what_comes_ahead_of_the_last_ones(self):
        for web in (STREET, DUEL.with_number("x", (-1, 1))):
            check_given(self, lambda: need(web, "c"), UnknownPlace, "c")
            check_given(self, lambda: step(web, "c"), UnknownPlace, "c")
            share = (2, 1)
            check_given(self, lambda: winner(web, "a", share), InvalidShare, share)
            check_given(self, lambda: safe_range(web, "a", (1, 2), "first", "a"), InvalidPlace, "a")
            check_given(self, lambda: is_safe(web, "a", (1, 2), "first", "b", share), InvalidBid, share)
            bad = Nasty()
            check_given(self, lambda: is_safe(web, "a", (1, 2), bad, "c", share), InvalidSide, bad)

    def test_the_step_of_an_end_comes_behind_all(self):
        raised(self, lambda: step(DUEL, "x"), AtAnEnd)
        raised(self, lambda: step(STREET, "x"), NotCoins)
        raised(self, lambda: step(DUEL.with_number("y", (2, 1)), "x"), NotParts)


if __name__ == "__main__":
    unittest.main()
