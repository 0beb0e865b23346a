import unittest
from fractions import Fraction

from placeworths.errors import InvalidNumber, InvalidPlan, InvalidSide, NotAWeb, UnknownPlace
from placeworths.webs import Web
from placeworths.worths import best_arrows, held, plan, turned, within, worth, worths
from tests.helpers import Nasty, check_given, check_signature, fraction, number, odd_values, some_random, wrong_numbers
from tests.webhelpers import (
    DUEL, ENDS, NAMES, STREET, options, plans, random_web, ruled, searched, size_of_plans, some_webs, table_of,
    worths_of_plans, wrong_places, wrong_webs,
)

SIDES = ("ours", "theirs")
PICK = Web.read("a ours b:0/1 z:1/1\nb chance y:1/2 z:1/2\ny end 0/1\nz end 4/1")
ROUND = Web.read(
    "a ours b:-1/2 x:0/1\nb chance a:1/4 c:1/4 d:1/4 x:1/4\nc coin a b y\nd theirs b:1/1 c:0/1\nx end 0/1\ny end 5/1"
)


def big_rows(kind):
    """Rows of 24 places, 22 of which go on and back; the two last ones are ends."""
    rows = []
    for at in range(22):
        to = sorted({NAMES[max(0, at - 1)], NAMES[at + 1], NAMES[at + 2]})
        what = {
            "coin": tuple(to), "chance": tuple((one, (1, len(to))) for one in to),
            "ours": tuple((one, (1, 1)) for one in to if one > NAMES[at]),
        }
        rows.append((NAMES[at], kind, what[kind]))
    return tuple(rows) + ((NAMES[22], "end", (0, 1)), (NAMES[23], "end", (7, 2)))


class Rule(unittest.TestCase):
    def check_rule(self, web):
        told = table_of(web, worths(web))
        self.assertEqual(ruled(web.rows, told), told)
        return told

    def test_the_worths_keep_the_rule_at_each_place(self):
        random = some_random(1)
        for web in some_webs(random, 300, inner=8, ends=3, most=4):
            told = self.check_rule(web)
            self.assertEqual({place: fraction(worth(web, place)) for place in web.places}, told)

    def test_coin_webs_keep_the_rule_with_and_without_traps(self):
        random = some_random(2)
        endings = []
        for at in range(200):
            web = random_web(random, random.randint(1, 14), random.randint(1, 4), ("coin",), most=1 + at % 8)
            self.check_rule(web)
            endings.append(web.is_ending)
        self.assertTrue(30 < sum(endings) < 170)

    def test_worths_against_a_search_through_all_plans(self):
        random = some_random(3)
        found = 0
        for web in some_webs(random, 400, inner=5):
            if web.is_ending and size_of_plans(web.rows) <= 200:
                low, high = searched(web.rows)
                told = table_of(web, worths(web))
                self.assertEqual([low, high], [told, told])
                found += len(web.places) > 4
        self.assertTrue(found > 50)

    def test_no_plan_in_a_coin_web_is_better_against_the_best_arrows(self):
        random = some_random(4)
        traps = 0
        for web in some_webs(random, 80, inner=4, mixes=(("coin",),)):
            told = table_of(web, worths(web))
            best = {place: best_arrows(web, place) for place in web.places if web.kind(place) == "coin"}
            ours = {place: [(both[0][0], Fraction(1), Fraction(0))] for place, both in best.items()}
            theirs = {place: [(both[1][0], Fraction(1), Fraction(0))] for place, both in best.items()}
            traps += not web.is_ending
            for other in plans(web.rows, ("coin",)):
                for mine, yours, sign in ((other, theirs, 1), (ours, other, -1)):
                    values = worths_of_plans(web.rows, mine, yours)
                    if values is not None:
                        self.assertTrue(all(sign * values[place] <= sign * told[place] for place in told))
        self.assertTrue(traps > 10)

    def test_webs_of_ends_alone_of_one_place_and_of_24(self):
        self.assertEqual([worths(ENDS), worth(ENDS, "y")], [((0, 1), (1, 1)), (1, 1)])
        one = Web((("x", "end", (-3, 2)),))
        self.assertEqual([worths(one), worth(one, "x"), best_arrows(one, "x")], [((-3, 2),), (-3, 2), ()])
        for kind in ("coin", "chance", "ours"):
            web = Web(big_rows(kind))
            self.check_rule(web)
        self.assertEqual(worths(web)[0], number(Fraction(7, 2) - 12))

    def test_a_web_of_24_places_all_ends(self):
        rows = tuple((name, "end", (at, 7)) for at, name in enumerate(NAMES[:24]) if at % 7)
        self.assertEqual(worths(Web(rows)), tuple(row[2] for row in rows))

    def test_arrows_that_go_round(self):
        self.check_rule(ROUND)
        self.assertEqual(table_of(ROUND, worths(ROUND)), searched(ROUND.rows)[0])
        self.assertTrue(ROUND.is_ending)
        self.assertEqual(worths(DUEL), ((1, 3), (2, 3), (0, 1), (1, 1)))

    def test_a_coin_that_leads_to_itself(self):
        web = Web.read("a coin a x\nb coin a b x y\nx end 2/1\ny end 6/1")
        self.assertEqual([worths(web), worth(web, "b")], [((2, 1), (4, 1), (2, 1), (6, 1)), (4, 1)])
        long = Web.read("a coin a b\nb coin a b c\nc coin a b c x\nx end -2/7")
        self.assertEqual(worths(long), ((-2, 7),) * 4)

    def test_prices_below_0_are_had(self):
        web = Web.read("a ours x:-3/1 y:0/1\nb theirs x:-3/1 y:0/1\nx end 0/1\ny end 2/1")
        self.assertEqual([worths(web), best_arrows(web, "a"), best_arrows(web, "b")],
                         [((3, 1), (2, 1), (0, 1), (2, 1)), ("x",), ("y",)])

    def test_numbers_of_many_digits(self):
        random = some_random(5)
        for kinds in (("chance", "ours", "theirs"), ("coin",)):
            web = random_web(random, 6, 2, kinds)
            for end in web.ends:
                web = web.with_number(end, number(Fraction(random.randint(-10 ** 40, 10 ** 40), 10 ** 39 + 7)))
            self.check_rule(web)

    def test_worths_can_be_given_again_whatever_their_size(self):
        web = STREET.with_number("x", (3 ** 9000, 2 ** 9000))
        self.assertEqual(worth(web.with_number("y", worth(web, "a")), "y"), worth(web, "a"))


class BestArrows(unittest.TestCase):
    def test_best_arrows_give_the_worth(self):
        random = some_random(11)
        ties = 0
        for web in some_webs(random, 400, inner=6, ends=4, most=4, low=0, high=2):
            told = table_of(web, worths(web))
            for place, kind, what in web.rows:
                found = best_arrows(web, place)
                if kind in ("end", "chance"):
                    self.assertEqual(found, ())
                elif kind == "coin":
                    numbers = [told[to] for to in what]
                    expected = tuple(tuple(to for to in what if told[to] == sought)
                                     for sought in (max(numbers), min(numbers)))
                    self.assertEqual(found, expected)
                else:
                    expected = tuple(to for to, price in what if told[to] - fraction(price) == told[place])
                    self.assertEqual(found, expected)
                    ties += len(found) > 1
        self.assertTrue(ties > 10, ties)

    def test_equally_good_arrows(self):
        web = Web.read(
            "a ours x:0/1 y:1/1 z:0/1\nb theirs x:0/1 y:1/1 z:0/1\nc coin x y\nx end 2/1\ny end 3/1\nz end 0/1"
        )
        self.assertEqual([best_arrows(web, "a"), best_arrows(web, "b")], [("x", "y"), ("z",)])
        self.assertEqual(best_arrows(web.with_number("y", (2, 1)), "c"), (("x", "y"), ("x", "y")))
        single = Web.read("a coin x\nb ours x:5/1\nx end 2/1")
        self.assertEqual([best_arrows(single, "a"), best_arrows(single, "b")], [(("x",), ("x",)), ("x",)])


class Plans(unittest.TestCase):
    def test_plans_are_along_best_arrows_and_bring_the_worths(self):
        for web in some_webs(some_random(21), 200, inner=6, ends=3, most=4):
            for side in SIDES:
                found = plan(web, side)
                self.assertEqual([place for place, _ in found], [row[0] for row in web.rows if row[1] == side])
                self.assertTrue(all(to in best_arrows(web, place) for place, to in found))
                self.assertEqual(held(web, side, found), worths(web))

    def test_any_plan_held_against_the_other_side_at_its_best(self):
        random = some_random(22)
        for web in some_webs(random, 150, inner=4, mixes=(("chance", "ours", "theirs"), ("ours", "theirs", "coin"))):
            told = table_of(web, worths(web))
            for side, sign in (("ours", 1), ("theirs", -1)):
                for way in plans(web.rows, (side,)):
                    pairs = tuple((place, way[place][0][0]) for place in sorted(way))
                    values = table_of(web, held(web, side, pairs))
                    self.assertTrue(all(sign * values[place] <= sign * told[place] for place in told))
                    rows = tuple((place, kind, tuple(one for one in what if one[0] == dict(pairs)[place]))
                                 if kind == side else (place, kind, what) for place, kind, what in web.rows)
                    self.assertEqual(ruled(rows, values), values)

    def test_a_side_without_places(self):
        for web in (DUEL, ENDS, PICK):
            self.assertEqual([plan(web, "theirs"), held(web, "theirs", ())], [(), worths(web)])
        self.assertEqual([plan(DUEL, "ours"), held(DUEL, "ours", ())], [(), worths(DUEL)])
        wrong = (("a", "b"),)
        check_given(self, lambda: held(DUEL, "ours", wrong), InvalidPlan, wrong)

    def test_what_is_no_plan(self):
        web = Web.read("a ours x:0/1 y:0/1\nb ours x:0/1\nc theirs x:0/1 y:1/1\nx end 0/1\ny end 1/1")
        good = (("a", "x"), ("b", "x"))
        self.assertEqual(held(web, "ours", good), ((0, 1), (0, 1), (0, 1), (0, 1), (1, 1)))
        for wrong in odd_values() + [
            (), list(good), good[::-1], good[:1], good[1:], good + (("c", "x"),), good + good, (good,), dict(good),
            (["a", "x"], ("b", "x")), (("a", "x"), ("b", "y")), (("a", "b"), ("b", "x")), (("a", "z"), ("b", "x")),
            (("a", "x", "x"), ("b", "x")), (("a",), ("b", "x")), (("a", None), ("b", "x")), (("x", "a"), ("x", "b")),
            ((None, "x"), ("b", "x")), (Nasty(), ("b", "x")), ((Nasty(), "x"), ("b", "x")), (("a", Nasty()), good[1]),
            ("ax", "bx"), (b"ax", b"bx"), (("a", ("x",)), ("b", "x")), (("a", ""), ("b", "x")), (("a", "x"), None),
            (("c", "x"),), "a x b x", (("a", "x"), ("a", "x")), (("a", "x"), ("c", "x")),
        ]:
            with self.subTest(wrong=str(type(wrong))):
                check_given(self, lambda: held(web, "ours", wrong), InvalidPlan, wrong)
        self.assertEqual(held(web, "theirs", (("c", "y"),))[2], (0, 1))
        check_given(self, lambda: held(web, "theirs", good), InvalidPlan, good)


class Within(unittest.TestCase):
    def test_within_so_many_moves(self):
        random = some_random(31)
        for web in some_webs(random, 100, inner=5):
            rest = number(Fraction(random.randint(-4, 4), random.choice((1, 2, 3))))
            values = {place: fraction(rest) if web.kind(place) != "end" else fraction(web.number(place))
                      for place in web.places}
            for moves in range(7):
                self.assertEqual(table_of(web, within(web, moves, rest)), values)
                values = ruled(web.rows, values)

    def test_0_and_60_and_61_moves(self):
        self.assertEqual(within(DUEL, 0, (9, 1)), ((9, 1), (9, 1), (0, 1), (1, 1)))
        values = dict(zip("abxy", map(Fraction, (9, 9, 0, 1))))
        for _ in range(60):
            values = ruled(DUEL.rows, values)
        self.assertEqual(table_of(DUEL, within(DUEL, 60, (9, 1))), values)
        self.assertTrue(0 < abs(values["a"] - Fraction(1, 3)) < Fraction(9, 2 ** 60))
        for wrong in (61, -1, True, False, None, "1", (1, 1), 10 ** 30):
            check_given(self, lambda: within(DUEL, wrong, (0, 1)), InvalidNumber, wrong)

    def test_a_web_that_goes_on_for_long(self):
        web = Web(big_rows("chance"))
        values = {place: Fraction(1, 3) if web.kind(place) != "end" else fraction(web.number(place))
                  for place in web.places}
        for _ in range(60):
            values = ruled(web.rows, values)
        self.assertEqual(table_of(web, within(web, 60, (1, 3))), values)


class Turned(unittest.TestCase):
    def test_turned_once_and_twice(self):
        for web in some_webs(some_random(41), 150, inner=6, ends=3):
            other = turned(web)
            self.assertEqual(table_of(other, worths(other)),
                             {place: -value for place, value in table_of(web, worths(web)).items()})
            self.assertEqual([turned(other), type(other)], [web, Web])
            for row, back in zip(web.rows, other.rows):
                place, kind, what = row
                if kind in ("coin", "chance"):
                    self.assertEqual(back, row)
                elif kind == "end":
                    self.assertEqual(back, (place, kind, (-what[0], what[1])))
                else:
                    opposite = "theirs" if kind == "ours" else "ours"
                    self.assertEqual(back, (place, opposite, tuple((to, (-top, low)) for to, (top, low) in what)))

    def test_the_other_side_has_the_same_plans(self):
        for web in (PICK, STREET, ROUND):
            self.assertEqual([plan(turned(web), "theirs"), plan(turned(web), "ours")],
                             [plan(web, "ours"), plan(web, "theirs")])


class Signatures(unittest.TestCase):
    def test_every_signature(self):
        web = ("web", STREET, wrong_webs(), NotAWeb)
        place = ("place", "a", wrong_places(), UnknownPlace)
        sides = odd_values() + ["Ours", "their", "our", "first", "coin", ("ours",), b"ours"]
        side = ("side", "ours", sides, InvalidSide)
        moves = ("moves", 3, odd_values_but_moves() + [61, -1, 10 ** 9, (1, 1), "1", "60"], InvalidNumber)
        check_signature(self, worths, [web])
        check_signature(self, worth, [web, place])
        check_signature(self, best_arrows, [web, place])
        check_signature(self, plan, [web, side])
        check_signature(self, held, [web, side, ("plan", (("a", "b"),), odd_values() + [()], InvalidPlan)])
        check_signature(self, within, [web, moves, ("rest", (1, 2), wrong_numbers(), InvalidNumber)])
        check_signature(self, turned, [web])

    def test_what_is_given_is_not_changed(self):
        before = STREET.rows
        for side in SIDES:
            held(STREET, side, plan(STREET, side))
        self.assertEqual([STREET.rows, worths(STREET)], [before, ((2, 1), (5, 2), (1, 1), (3, 1))])


def odd_values_but_moves():
    """Odd values, none of which is a number of moves."""
    return [value for value in odd_values() if type(value) is not int or not 0 <= value <= 60]


if __name__ == "__main__":
    unittest.main()
