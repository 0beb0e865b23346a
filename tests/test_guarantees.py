"""What the document promises over the whole program: a test for each of its guarantees, by means of all modules."""

import unittest
from fractions import Fraction
from itertools import product

from placeworths.bids import is_safe, needs, safe_range, step, winner
from placeworths.books import Book
from placeworths.certificates import (
    certify_at_least, certify_at_most, certify_draws, certify_ends, certify_stop, certify_strike, certify_worth,
)
from placeworths.checker import accepts
from placeworths.errors import NoAnswer, WrongName, WrongValue
from placeworths.folds import folded, grafted, struck
from placeworths.lines import at, line
from placeworths.logs import played
from placeworths.looks import best_order, company_worth, strike
from placeworths.loose import Loose, greatest, least, sure_arrows
from placeworths.made import company_web, row_web
from placeworths.orders import bold, cautious, never_less
from placeworths.plays import Play
from placeworths.stops import bars, worths_from
from placeworths.unknown import Unknown, filled, ranges, sure_best, sure_order
from placeworths.webs import Web
from placeworths.worths import best_arrows, held, plan, turned, worth, worths
from tests.bookhelpers import PlainBook, holds, pool, random_deed, shown
from tests.checkhelpers import bent, by_rules
from tests.helpers import fraction, number, random_draw, random_number, some_random, table
from tests.test_looks import random_company, walk
from tests.test_stops import random_row
from tests.webhelpers import random_web, some_webs, table_of


def mean_of(draw, wish):
    return sum(wish(value) * chance for value, chance in table(draw))


def some_numbers(random, count):
    return tuple(number(value) for value in sorted(random.sample(range(-5, 8), count)))


class Orders(unittest.TestCase):
    def test_draws_are_told_to_be_no_less_exactly_if_it_is_so_for_all_wishes(self):
        random = some_random(1)
        counts = {}
        for _ in range(400):
            one, two = random_draw(random, 3, 0, 4), random_draw(random, 3, 0, 4)
            levels = [value for draw in (one, two) for value, _ in table(draw)]
            # Each wish of a kind is made of these simple ones.
            kinds = {
                never_less: [lambda x, z=z: int(x > z) for z in [min(levels) - 1, *levels]],
                cautious: [lambda x, z=z: min(x, z) for z in levels],
                bold: [lambda x, z=z: max(x - z, 0) for z in levels] + [lambda x: x],
            }
            for told, wishes in kinds.items():
                good = all(mean_of(one, wish) >= mean_of(two, wish) for wish in wishes)
                self.assertIs(told(one, two), good)
                counts[told.__name__, good] = counts.get((told.__name__, good), 0) + 1
                if good:
                    weights = [random.randint(0, 3) for _ in wishes]
                    mixed = [sum(w * mean_of(draw, wish) for w, wish in zip(weights, wishes)) for draw in (one, two)]
                    self.assertTrue(mixed[0] >= mixed[1])
        self.assertTrue(min(counts.values()) > 20 and len(counts) == 6, counts)


class Best(unittest.TestCase):
    def had(self, row, rest, takes):
        """The mean of what is had if a number is taken as `takes` tells by the index and the number."""
        mean = fraction(rest)
        for index in range(len(row) - 1, -1, -1):
            mean = sum((value if takes(index, value) else mean) * chance for value, chance in table(row[index]))
        return mean

    def test_ways_to_stop(self):
        random = some_random(2)
        for _ in range(80):
            row, rest = random_row(random, 4), random_number(random)
            told = fraction(worths_from(row, rest)[0])
            limits = [fraction(one) for one in bars(row, rest)]
            self.assertEqual(self.had(row, rest, lambda index, value: value >= limits[index]), told)
            for _ in range(10):
                marks = {}
                other = self.had(row, rest, lambda k, value: marks.setdefault((k, value), random.random() < 0.5))
                self.assertTrue(other <= told)

    def test_ways_to_look(self):
        random = some_random(3)
        for _ in range(60):
            company, floor = random_company(random), random_number(random)
            told = fraction(company_worth(company, floor))
            order = best_order(company)
            ways = walk(company, fraction(floor), order)
            paid = sum(chance * sum(fraction(company[k][1]) for k in opened) for opened, chance, _ in ways)
            self.assertEqual(sum(chance * last for _, chance, last in ways) - paid, told)
            self.assertEqual([fraction(strike(company[k])) for k in order],
                             sorted([fraction(strike(box)) for box in company], reverse=True))

    def test_ways_to_move(self):
        random = some_random(4)
        for web in some_webs(random, 80, inner=5, ends=2):
            told = table_of(web, worths(web))
            for side, sign in (("ours", 1), ("theirs", -1)):
                # A plan that is held in a coin web leaves the coins as they are: there both still choose.
                self.assertEqual(table_of(web, held(web, side, plan(web, side))), told)
                places = [row[0] for row in web.rows if row[1] == side]
                for _ in range(4):
                    some = tuple((place, random.choice(web.arrows(place))) for place in places)
                    other = table_of(web, held(web, side, some))
                    self.assertTrue(all(other[place] * sign <= told[place] * sign for place in told))


class Bids(unittest.TestCase):
    def test_whoever_wins_goes_on_winning_whatever_is_bid(self):
        random = some_random(5)
        ended = {"first": 0, "second": 0}
        for _ in range(60):
            web = random_web(random, random.randint(1, 5), random.randint(1, 3), ("coin",), low=0, high=4, bottom=4)
            table_needs = dict(zip(web.places, needs(web)))
            place, share = random.choice(web.places), number(Fraction(random.randint(0, 60), 60))
            player = winner(web, place, share)
            while player is not None and web.kind(place) != "end" and share[1] < 10 ** 5:
                self.assertEqual(winner(web, place, share), player)
                to = best_arrows(web, place)[0 if player == "first" else 1][0]
                bid = self.some_safe_bid(random, web, place, share, player, to)
                had = fraction(share) if player == "first" else 1 - fraction(share)
                other = random.choice((Fraction(0), bid, 1 - had, (1 - had) / 2, bid + Fraction(1, 97)))
                other = min(other, 1 - had)
                wins = bid > other or bid == other and random.random() < 0.5
                paid = bid if wins else -other
                share = number(fraction(share) + (-paid if player == "first" else paid))
                place = to if wins else random.choice(web.arrows(place))
            if player is not None and web.kind(place) == "end":
                ended[player] += 1
                first = fraction(share) > 1 - fraction(web.number(place))
                self.assertTrue(first if player == "first" else fraction(share) < 1 - fraction(web.number(place)))
            self.assertEqual(table_needs[place], number(1 - fraction(worth(web, place))))
        self.assertTrue(min(ended.values()) > 5, ended)

    def some_safe_bid(self, random, web, place, share, player, to):
        """Some bid that is told to be safe: the step, or one within the told range."""
        low, high = [fraction(one) for one in safe_range(web, place, share, player, to)]
        had = fraction(share) if player == "first" else 1 - fraction(share)
        bids = [fraction(step(web, place)), (max(low, Fraction(0)) + min(high, had)) / 2]
        for bid in bids:
            self.assertTrue(is_safe(web, place, share, player, to, number(bid)))
        return random.choice(bids)


class Sure(unittest.TestCase):
    def test_fillings(self):
        random = some_random(6)
        for _ in range(40):
            web = random_web(random, random.randint(1, 5), 3, ("chance", "ours", "theirs"))
            unknown = Unknown(web, tuple((end, some_numbers(random, 2)) for end in web.ends[:2]))
            tables = []
            for numbers in product(*[numbers for _, numbers in unknown.choices]):
                filling = filled(unknown, numbers)
                tables.append(dict(zip(web.places, worths(filling))))
                for place, arrows in sure_best(unknown):
                    self.assertTrue(set(arrows) <= set(best_arrows(filling, place)))
            for place, low, high in ranges(unknown):
                values = [fraction(told[place]) for told in tables]
                self.assertEqual([fraction(low), fraction(high)], [min(values), max(values)])
            for one, two in sure_order(unknown):
                self.assertTrue(all(fraction(told[one]) >= fraction(told[two]) for told in tables))

    def loosened(self, random, web):
        """A loose web of which the web is a member."""
        rows = []
        for place, kind, what in web.rows:
            if kind == "end":
                value = fraction(what)
                what = (number(value - random.randint(0, 2)), number(value + random.randint(0, 2)))
            elif kind == "chance":
                what = tuple((to, number(fraction(one) / random.randint(1, 2)), number(min(1, fraction(one) * 2)))
                             for to, one in what)
            rows.append((place, kind, what))
        return Loose(tuple(rows))

    def test_members(self):
        random = some_random(7)
        for web in some_webs(random, 60, inner=5, ends=3, mixes=(("chance", "ours", "theirs"), ("chance", "ours"))):
            loose = self.loosened(random, web)
            low, high = least(loose), greatest(loose)
            for place, value, one, two in zip(web.places, worths(web), low, high):
                self.assertTrue(fraction(one) <= fraction(value) <= fraction(two))
                if web.kind(place) in ("ours", "theirs"):
                    self.assertTrue(set(sure_arrows(loose, place)) <= set(best_arrows(web, place)))

    def test_numbers_of_an_end(self):
        random = some_random(8)
        for web in some_webs(random, 40, inner=5, ends=3, mixes=(("chance", "ours"), ("chance", "theirs"))):
            place, end = random.choice(web.places), random.choice(web.ends)
            pieces = line(web, place, end)
            for value in (-100, -2, 0, Fraction(1, 2), 3, 100):
                self.assertEqual(at(pieces, number(value)), worth(web.with_number(end, number(value)), place))


class Made(unittest.TestCase):
    def test_folded_struck_grafted_turned_and_made_webs(self):
        random = some_random(9)
        done = {"struck": 0, "grafted": 0}
        for web in some_webs(random, 120, inner=5, ends=2):
            told = dict(zip(web.places, worths(web)))
            small = folded(web)
            self.assertTrue(all(told[place] == value for place, value in zip(small.places, worths(small))))
            for place, value in zip(web.places, worths(turned(web))):
                self.assertEqual(value, number(-fraction(told[place])))
            for place in web.places:
                try:
                    less = struck(web, place)
                except (WrongValue, NoAnswer):
                    continue
                self.assertEqual(dict(zip(less.places, worths(less))), {one: told[one] for one in told if one != place})
                done["struck"] += 1
            other = Web.read("z1 ours z2:1/2 z3:0/1\nz2 chance z1:1/3 z3:2/3\nz3 end 2/1")
            if web.is_ending:
                end, start = random.choice(web.ends), random.choice(other.places)
                large = grafted(web, end, other, start)
                same = web.with_number(end, worth(other, start))
                for place in web.places:
                    if place != end:
                        self.assertEqual(worth(large, place), worth(same, place))
                done["grafted"] += 1
        self.assertTrue(min(done.values()) > 30, done)

    def test_rows_and_companies(self):
        random = some_random(10)
        done = 0
        for _ in range(150):
            row, rest, company = random_row(random, 3, 2), random_number(random), random_company(random, 2, pairs=2)
            for make, value in ((lambda: row_web(row, rest), worths_from(row, rest)[0]),
                                (lambda: company_web(company, rest), company_worth(company, rest))):
                try:
                    web = make()
                except NoAnswer:
                    continue
                self.assertEqual(worth(web, "a"), value)
                done += 1
        self.assertTrue(done > 150, done)


class Live(unittest.TestCase):
    def test_a_play_shows_what_its_moves_have_led_to_and_undoing_leads_back(self):
        random = some_random(11)
        for web in some_webs(random, 40, inner=5, ends=2):
            play = Play(web, random.choice(web.places))
            tables = [(play.place, play.paid, play.due, play.trail)]
            while not play.is_over and play.changes < 12:
                play.go(random.choice(web.arrows(play.place)))
                tables.append((play.place, play.paid, play.due, play.trail))
            self.assertEqual(played(web, play.trail[0], play.log).trail, play.trail)
            for told in tables[::-1]:
                self.assertEqual((play.place, play.paid, play.due, play.trail), told)
                if play.changes:
                    play.undo()

    def test_after_each_change_all_claims_of_a_book_hold_and_undoing_leads_back(self):
        random = some_random(12)
        for _ in range(8):
            webs, book, plain = pool(random), Book(), PlainBook()
            tables = [shown(book)]
            for _ in range(80):
                deed = random_deed(random, plain, webs)
                plain.do(deed)
                try:
                    book.do_all(deed)
                    tables.append(shown(book))
                except (WrongValue, WrongName, NoAnswer):
                    pass
                self.assertEqual(shown(book), tables[-1])
                self.assertTrue(all(holds(claim, book[claim[1]]) for claim in book.claims))
            for told in tables[::-1]:
                self.assertEqual(shown(book), told)
                if book.changes:
                    book.undo()


class Checker(unittest.TestCase):
    def papers(self, random):
        """Pairs of a claim and a paper that this package makes."""
        web = random_web(random, random.randint(0, 4), 2, ("chance", "ours", "theirs", "coin"))
        chain = random_web(random, random.randint(0, 4), 2, ("chance",))
        place, value = random.choice(web.places), random_number(random)
        told = [
            certify_worth(web, place), certify_ends(chain, random.choice(chain.places)),
            certify_draws(random_draw(random), random_draw(random)), certify_stop(random_row(random), value),
            certify_strike((random_draw(random), number(Fraction(random.randint(0, 5), 2)))),
        ]
        if web.is_ending:
            told += [certify_at_least(web, place, value), certify_at_most(web, place, value)]
        return [pair for pair in told if pair is not None]

    def test_papers_of_this_package_are_accepted_and_what_is_accepted_is_true(self):
        random = some_random(13)
        accepted = 0
        for _ in range(60):
            for claim, paper in self.papers(random):
                self.assertIs(accepts(claim, paper), True)
                for claim_two, paper_two in (*[(one, paper) for one in bent(claim)], *[(claim, one) for one in bent(paper)]):
                    if random.random() < 0.1:
                        good = accepts(claim_two, paper_two)
                        self.assertIs(good, by_rules(claim_two, paper_two))
                        accepted += good
                        if good:
                            self.check_true(claim_two)
        self.assertTrue(accepted > 20, accepted)

    def check_true(self, claim):
        """Checks that a claim is true, by what the other modules tell."""
        word, told = claim[0], claim[1:]
        if word == "worth":
            self.assertEqual(worth(Web(told[0]), told[1]), told[2])
        elif word == "at least":
            self.assertTrue(fraction(worth(Web(told[0]), told[1])) >= fraction(told[2]))
        elif word == "at most":
            self.assertTrue(fraction(worth(Web(told[0]), told[1])) <= fraction(told[2]))
        elif word in ("never less", "less"):
            self.assertIs(never_less(*told), word == "never less")
        elif word == "stop":
            self.assertEqual(worths_from(*told[:2])[0], told[2])
        elif word == "strike":
            self.assertEqual(strike(told[0]), told[1])
        else:
            self.assertEqual((word, certify_ends(Web(told[0]), told[1])[0][3]), ("ends", told[2]))


class Conventions(unittest.TestCase):
    def test_equal_arguments_tell_equal_things(self):
        for seed in range(6):
            one, two = (random_web(some_random(seed), 5, 3, ("chance", "ours", "theirs", "coin")) for _ in range(2))
            self.assertTrue(one == two and one.rows == two.rows)
            self.assertEqual([worths(one), plan(one, "ours"), folded(one)], [worths(two), plan(two, "ours"), folded(two)])
            self.assertEqual(certify_worth(one, one.places[0]), certify_worth(two, two.places[0]))


if __name__ == "__main__":
    unittest.main()
