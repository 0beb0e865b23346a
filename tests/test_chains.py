import unittest
from fractions import Fraction

from placeworths.chains import ends_from, keeps, met_chance, steps_from, visits
from placeworths.errors import InvalidNumber, NotAChain, NotAWeb, UnknownPlace
from placeworths.webs import Web
from placeworths.worths import worth, worths
from tests.helpers import Nasty, check_given, check_signature, fraction, number, odd_values, raised, some_random
from tests.helpers import wrong_numbers
from tests.webhelpers import DUEL, ENDS, NAMES, STREET, answers, random_web, some_webs, wrong_places, wrong_webs

DRIFT = Web.read("a chance a:1/3 b:1/3 y:1/3\nb chance a:1/2 z:1/2\ny end 0/1\nz end 1/1")
CHAINS = (("chance",),)


def some_chains(seed, count, inner=6, ends=3):
    return some_webs(some_random(seed), count, inner=inner, ends=ends, mixes=CHAINS, most=4)


def stays(web, start, steps):
    """For each number of moves below steps the chances to be at each place, behind so many moves from a start."""
    now = {place: Fraction(place == start) for place in web.places}
    for _ in range(steps):
        yield now
        after = {place: Fraction(0) for place in web.places}
        for place, kind, what in web.rows:
            if kind == "end":
                after[place] += now[place]
            else:
                for to, chance in what:
                    after[to] += now[place] * fraction(chance)
        # Far-off digits do not count here.
        now = {place: Fraction(round(value * 10 ** 30), 10 ** 30) for place, value in after.items()}


class Coming(unittest.TestCase):
    def near(self, told, expected):
        self.assertTrue(abs(fraction(told) - expected) < Fraction(1, 10 ** 9), (told, float(expected)))

    def test_against_moves_one_by_one(self):
        for web in some_chains(1, 30, inner=4):
            for place in web.places:
                many = {one: Fraction(0) for one in web.places}
                for now in stays(web, place, 500):
                    many = {one: many[one] + now[one] for one in many}
                last = now
                ends, seen = dict(ends_from(web, place)), dict(visits(web, place))
                for one in web.places:
                    if web.kind(one) == "end":
                        self.near(ends.get(one, (0, 1)), last[one])
                        self.assertEqual(one in ends, last[one] > Fraction(1, 10 ** 9))
                    else:
                        self.near(seen.get(one, (0, 1)), many[one])
                        self.assertEqual(one in seen, many[one] > Fraction(1, 10 ** 9))
                self.near(steps_from(web, place), sum(many[one] for one in web.places if web.kind(one) != "end"))
                self.assertEqual([list(ends), list(seen)], [sorted(ends), sorted(seen)])

    def test_chances_of_ends_are_worths(self):
        for web in some_chains(2, 60):
            for place in web.places:
                told = dict(ends_from(web, place))
                self.assertEqual(sum(fraction(chance) for chance in told.values()), 1)
                for end in web.ends:
                    one = web
                    for other in web.ends:
                        one = one.with_number(other, (int(end == other), 1))
                    self.assertEqual(told.get(end, (0, 1)), worth(one, place))
                mean = sum(fraction(chance) * fraction(web.number(end)) for end, chance in told.items())
                self.assertEqual(number(mean), worth(web, place))

    def test_mean_steps_keep_their_rule(self):
        for web in some_chains(3, 60, inner=9):
            told = {place: fraction(steps_from(web, place)) for place in web.places}
            for place, kind, what in web.rows:
                mean = 0 if kind == "end" else 1 + sum(told[to] * fraction(chance) for to, chance in what)
                self.assertEqual(told[place], mean)
                self.assertEqual(told[place], sum(fraction(many) for _, many in visits(web, place)))

    def test_mean_visits_against_equations(self):
        for web in some_chains(4, 60, inner=6):
            inner = [row[0] for row in web.rows if row[1] == "chance"]
            matrix = [[Fraction(one == two) - fraction(dict(what).get(one, (0, 1))) for two, kind, what in web.rows
                       if kind == "chance"] for one in inner]
            for start in inner:
                many = answers(matrix, [Fraction(one == start) for one in inner])
                expected = tuple((one, number(value)) for one, value in zip(inner, many) if value)
                self.assertEqual(visits(web, start), expected)

    def test_met_chances_against_visits_and_other_webs(self):
        for web in some_chains(5, 60, inner=5):
            for place in web.places:
                for other in web.places:
                    told = met_chance(web, place, other)
                    if place == other:
                        self.assertEqual(told, (1, 1))
                    elif web.kind(other) == "end":
                        self.assertEqual(told, dict(ends_from(web, place)).get(other, (0, 1)))
                    else:
                        many = fraction(dict(visits(web, place)).get(other, (0, 1)))
                        self.assertEqual(fraction(told) * fraction(dict(visits(web, other))[other]), many)

    def test_arrows_to_the_place_itself_and_back(self):
        web = Web.read("a chance a:3/4 b:1/4\nb chance a:1/2 x:1/2\nx end 5/1")
        self.assertEqual([steps_from(web, "a"), steps_from(web, "b")], [(10, 1), (6, 1)])
        self.assertEqual([visits(web, "a"), visits(web, "b")],
                         [(("a", (8, 1)), ("b", (2, 1))), (("a", (4, 1)), ("b", (2, 1)))])
        self.assertEqual([met_chance(web, "b", "a"), met_chance(web, "a", "x"), met_chance(web, "x", "a")],
                         [(1, 2), (1, 1), (0, 1)])

    def test_an_end_and_places_that_are_never_come_to(self):
        web = Web.read("a chance x:1/1\nb chance a:1/2 b:1/2\nx end 0/1\ny end 1/1")
        self.assertEqual([ends_from(web, "a"), ends_from(web, "b"), ends_from(web, "y")],
                         [(("x", (1, 1)),), (("x", (1, 1)),), (("y", (1, 1)),)])
        self.assertEqual([visits(web, "a"), visits(web, "b"), visits(web, "y")],
                         [(("a", (1, 1)),), (("a", (1, 1)), ("b", (2, 1))), ()])
        self.assertEqual([met_chance(web, "a", "b"), met_chance(web, "b", "y"), met_chance(web, "y", "x")],
                         [(0, 1)] * 3)

    def test_chains_of_ends_alone(self):
        self.assertEqual([ends_from(ENDS, "x"), steps_from(ENDS, "y"), visits(ENDS, "x"), met_chance(ENDS, "x", "y"),
                          met_chance(ENDS, "x", "x")], [(("x", (1, 1)),), (0, 1), (), (0, 1), (1, 1)])
        self.assertIs(keeps(ENDS, ((7, 1), (-9, 2))), True)

    def test_a_chain_of_24_places(self):
        rows = [(NAMES[at], "chance", ((NAMES[0], (1, 2)), (NAMES[at + 1], (1, 2)))) for at in range(1, 23)]
        web = Web(((NAMES[0], "chance", ((NAMES[1], (1, 1)),)), *rows, (NAMES[23], "end", (0, 1))))
        self.assertEqual(steps_from(web, NAMES[0]), (3 * 2 ** 22 - 2, 1))
        self.assertEqual(visits(web, NAMES[0])[22], (NAMES[22], (2, 1)))
        self.assertEqual(met_chance(web, NAMES[1], NAMES[23]), (1, 1))


class Keeping(unittest.TestCase):
    def test_worths_are_kept_and_nothing_else_with_the_same_ends(self):
        for web in some_chains(6, 60):
            told = worths(web)
            self.assertIs(keeps(web, told), True)
            for at, (_, kind, _) in enumerate(web.rows):
                other = told[:at] + (number(fraction(told[at]) + Fraction(1, 7)),) + told[at + 1:]
                changed = web.with_number(web.places[at], other[at]) if kind == "end" else web
                self.assertIs(keeps(web, other), worths(changed) == other)

    def test_the_numbers_of_the_ends_do_not_count(self):
        self.assertIs(keeps(DRIFT, ((5, 3), (7, 3), (1, 1), (3, 1))), keeps(DRIFT, ((2, 1), (2, 1), (2, 1), (2, 1))))
        self.assertIs(keeps(DRIFT, ((2, 1), (2, 1), (2, 1), (3, 1))), False)

    def test_what_is_no_row_of_numbers(self):
        good = worths(DRIFT)
        wrongs = odd_values() + [(), list(good), good[:3], good + ((0, 1),), good[0], (0, 0, 0, 0)]
        wrongs += [good[:at] + (wrong,) + good[at + 1:] for wrong in wrong_numbers() for at in (0, 3)]
        for wrong in wrongs:
            check_given(self, lambda: keeps(DRIFT, wrong), InvalidNumber, wrong)


class Errors(unittest.TestCase):
    def test_every_signature(self):
        web, place = ("web", DRIFT, wrong_webs(), NotAWeb), ("place", "a", wrong_places(), UnknownPlace)
        for function in (ends_from, steps_from, visits):
            check_signature(self, function, [web, place])
        check_signature(self, met_chance, [web, place, ("other", "b", wrong_places(), UnknownPlace)])
        check_signature(self, keeps, [web, ("numbers", worths(DRIFT), wrong_numbers(), InvalidNumber)])

    def test_webs_that_are_no_chains_come_right_behind(self):
        others = [DUEL, STREET, Web.read("a theirs x:0/1\nx end 0/1"), Web.read("a chance x:1/1\nb coin x\nx end 0/1")]
        for web in others:
            for call in (
                lambda: ends_from(web, "a"), lambda: steps_from(web, "a"), lambda: visits(web, "a"),
                lambda: met_chance(web, "a", "a"), lambda: keeps(web, worths(web)), lambda: ends_from(web, None),
                lambda: steps_from(web, Nasty()), lambda: visits(web, "nowhere"), lambda: met_chance(web, 1, 2),
                lambda: met_chance(web, "a", []), lambda: keeps(web, None),
                lambda: met_chance(other=1, place=2, web=web),
            ):
                self.assertEqual(vars(raised(self, call, NotAChain)), {})

    def test_a_random_web_is_a_chain_exactly_if_chance_alone_moves(self):
        random = some_random(7)
        told = []
        for at in range(60):
            kinds = (("chance",), ("chance", "chance", "coin"), ("chance", "ours"))[at % 3]
            web = random_web(random, random.randint(0, 3), 2, kinds)
            chain = all(row[1] in ("chance", "end") for row in web.rows)
            told.append(chain)
            if chain:
                keeps(web, worths(web))
            else:
                raised(self, lambda: keeps(web, worths(web)), NotAChain)
        self.assertTrue(10 < sum(told) < 55)


if __name__ == "__main__":
    unittest.main()
