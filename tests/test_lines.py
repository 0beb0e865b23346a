import unittest
from fractions import Fraction

from placeworths.errors import InvalidNumber, InvalidPieces, InvalidPlace, NotAWeb, TooMixed, UnknownPlace
from placeworths.lines import at, even_at, line
from placeworths.webs import Web
from placeworths.worths import turned, worth
from tests.helpers import Nasty, check_given, check_signature, fraction, number, odd_values, raised, some_random
from tests.helpers import wrong_numbers
from tests.webhelpers import (
    DUEL, ENDS, STREET, plans, size_of_plans, some_webs, worths_of_plans, wrong_places, wrong_webs,
)

OURS = (("chance", "ours"), ("ours",), ("chance", "chance", "ours"), ("chance",))
THEIRS = (("chance", "theirs"), ("theirs",), ("chance", "chance", "theirs"))
PICK = Web.read("a ours b:0/1 z:1/1\nb chance y:1/2 z:1/2\ny end 0/1\nz end 4/1")
STAIRS = Web.read(
    "a ours b:0/1 c:1/1 x:3/1 y:0/1\nb chance x:1/3 y:2/3\nc chance x:2/3 y:1/3\nx end 0/1\ny end 0/1"
)


def beside(values):
    """Some numbers, those between them, and numbers near and far beyond."""
    told = sorted(values) or [Fraction(0)]
    between = [(low + high) / 2 for low, high in zip(told, told[1:])]
    return [told[0] - 10 ** 9, told[0] - 1, *told, *between, told[-1] + Fraction(1, 3), told[-1] + 10 ** 12]


def starts_of(pieces):
    return [fraction(piece[0]) for piece in pieces[1:]]


class Lines(unittest.TestCase):
    def check_line(self, web, place, end, bend):
        """Checks the form of a line, and what it tells for numbers at, between and beyond all its pieces."""
        pieces = line(web, place, end)
        starts = starts_of(pieces)
        self.assertIsNone(pieces[0][0])
        self.assertEqual(starts, sorted(set(starts)))
        slopes = [fraction(slope) for _, slope, _ in pieces]
        self.assertTrue(all(0 <= slope <= 1 for slope in slopes))
        self.assertTrue(all(bend * low < bend * high for low, high in zip(slopes, slopes[1:])), pieces)
        for value in beside(starts):
            self.assertEqual(at(pieces, number(value)), worth(web.with_number(end, number(value)), place))
        return len(pieces)

    def test_lines_bent_up_and_down_tell_the_worths(self):
        random = some_random(1)
        counts = []
        for mixes, bend in ((OURS, 1), (THEIRS, -1)):
            for web in some_webs(random, 80, inner=8, ends=3, mixes=mixes, most=4, bottom=2):
                end = random.choice(web.ends)
                for place in web.places:
                    counts.append(self.check_line(web, place, end, bend))
        self.assertTrue({1, 2, 3} <= set(counts) and len(counts) > 500, set(counts))

    def test_lines_against_the_lines_of_all_plans(self):
        random = some_random(2)
        most = 0
        for mixes, kind, best in ((OURS, "ours", max), (THEIRS, "theirs", min)):
            for web in some_webs(random, 100, inner=6, ends=3, mixes=mixes, most=4):
                if size_of_plans(web.rows) > 60:
                    continue
                end = random.choice(web.ends)
                tables = []
                for plan in plans(web.rows, (kind,)):
                    low = worths_of_plans(web.with_number(end, (0, 1)).rows, plan, plan)
                    high = worths_of_plans(web.with_number(end, (1, 1)).rows, plan, plan)
                    tables.append({place: (high[place] - low[place], low[place]) for place in low})
                for place in web.places:
                    lines = sorted({table[place] for table in tables})
                    meet = {(two[1] - one[1]) / (one[0] - two[0]) for one in lines for two in lines if one[0] != two[0]}
                    pieces = line(web, place, end)
                    for value in beside(meet):
                        told = best(slope * value + height for slope, height in lines)
                        self.assertEqual(fraction(at(pieces, number(value))), told)
                    self.assertTrue(set(starts_of(pieces)) <= meet)
                    self.assertTrue({(fraction(slope), fraction(height)) for _, slope, height in pieces} <= set(lines))
                    most = max(most, len(pieces))
        self.assertTrue(most > 2)

    def test_one_piece_and_several(self):
        self.assertEqual(line(STAIRS, "b", "x"), ((None, (1, 3), (0, 1)),))
        self.assertEqual(line(STAIRS, "a", "x"), (
            (None, (0, 1), (0, 1)), ((0, 1), (1, 3), (0, 1)), ((3, 1), (2, 3), (-1, 1)), ((6, 1), (1, 1), (-3, 1)),
        ))
        self.assertEqual(line(turned(STAIRS), "a", "x"), (
            (None, (1, 1), (3, 1)), ((-6, 1), (2, 3), (1, 1)), ((-3, 1), (1, 3), (0, 1)), ((0, 1), (0, 1), (0, 1)),
        ))

    def test_lines_that_meet_where_a_third_one_meets_them(self):
        # For 3 the arrow to c is as good as those to b and x, but for no number it alone is the best one.
        web = Web.read("a ours b:0/1 c:1/1 x:2/1\nb chance x:1/3 y:2/3\nc chance x:2/3 y:1/3\nx end 0/1\ny end 0/1")
        self.assertEqual(line(web, "a", "x"), ((None, (1, 3), (0, 1)), ((3, 1), (1, 1), (-2, 1))))

    def test_the_end_itself_another_end_and_a_place_that_never_comes_there(self):
        for web in (PICK, turned(PICK)):
            self.assertEqual(line(web, "y", "y"), ((None, (1, 1), (0, 1)),))
            self.assertEqual(line(web, "z", "y"), ((None, (0, 1), worth(web, "z")),))
        web = Web.read("a ours x:1/2\nb chance a:1/2 b:1/2\nx end 3/1\ny end 0/1")
        self.assertEqual([line(web, "a", "y"), line(web, "b", "y")], [((None, (0, 1), (5, 2)),)] * 2)
        self.assertEqual(line(ENDS, "x", "x"), ((None, (1, 1), (0, 1)),))

    def test_the_number_that_stands_at_the_end_does_not_count(self):
        for value in ((0, 1), (-7, 2), (10 ** 30, 1)):
            self.assertEqual(line(STAIRS.with_number("x", value), "a", "x"), line(STAIRS, "a", "x"))

    def test_many_pieces(self):
        names = [f"c{k}" for k in range(8)]
        rows = [("a", "ours", tuple((name, (k * k, 1)) for k, name in enumerate(names)))]
        rows += [(name, "chance", (("x", number(Fraction(k + 1, 10))), ("y", number(Fraction(9 - k, 10)))))
                 for k, name in enumerate(names)]
        web = Web(tuple(rows) + (("x", "end", (0, 1)), ("y", "end", (0, 1))))
        pieces = line(web, "a", "x")
        self.assertEqual(len(pieces), 8)
        self.assertEqual([piece[0] for piece in pieces[1:]], [(10 * (2 * k + 1), 1) for k in range(7)])

    def test_ways_that_go_round(self):
        web = Web.read("a ours b:1/2 x:0/1\nb chance a:1/2 y:1/2\nx end 1/1\ny end 3/1")
        for end in ("x", "y"):
            for place in "abxy":
                self.check_line(web, place, end, 1)
                self.check_line(turned(web), place, end, -1)


class At(unittest.TestCase):
    PIECES = ((None, (1, 2), (0, 1)), ((2, 1), (-3, 1), (7, 1)), ((5, 2), (0, 1), (-1, 2)))

    def test_at_between_and_beyond(self):
        for value, told in (
            ((-100, 1), (-50, 1)), ((2, 1), (1, 1)), ((1, 1), (1, 2)), ((9, 4), (1, 4)), ((5, 2), (-1, 2)),
            ((10 ** 40, 3), (-1, 2)),
        ):
            self.assertEqual(at(self.PIECES, value), told)
        self.assertEqual(at(((None, (-1, 2), (1, 3)),), (4, 1)), (-5, 3))

    def test_what_are_no_pieces(self):
        first, second, third = self.PIECES
        good = first
        wrongs = odd_values() + [
            (), list(self.PIECES), first, (list(first),), (first[1:],), ((*first, None),), self.PIECES[1:],
            self.PIECES[::-1], (first, first), (first, second, second), (second, third), (first, third), (first, None),
            (Nasty(), second),
            (((0, 1), (1, 2), (0, 1)),), ((0, (1, 2), (0, 1)),), ((False, (1, 2), (0, 1)),), (((), (1, 2), (0, 1)),),
            (first, (None, (1, 1), (0, 1))), (first, ((0, 1), (1, 2), (0, 1))), (first, ((2, 1), (1, 1), (0, 1))),
            (first, ((0, 1), (1, 1), (0, 1)), ((0, 1), (2, 1), (0, 1))),
            (first, ((0, 1), (1, 1), (0, 1)), ((-1, 1), (2, 1), (1, 1))),
            (first, ((2, 1), (-3, 1), (8, 1)), third), (first, ((0, 1), (1, 1), (0, 1)), ((4, 1), (1, 1), (0, 1))),
            {None: first}, (("", (1, 2), (0, 1)),),
        ]
        wrongs += [(first, (wrong, (1, 1), (0, 1))) for wrong in wrong_numbers()]
        wrongs += [((None, wrong, (0, 1)),) for wrong in wrong_numbers()]
        wrongs += [((None, (0, 1), wrong),) for wrong in wrong_numbers()]
        for wrong in wrongs:
            check_given(self, lambda: at(wrong, (0, 1)), InvalidPieces, wrong)
        self.assertEqual(at((good,), (2, 1)), (1, 1))
        check_signature(self, at, [("pieces", self.PIECES, wrongs, InvalidPieces),
                                   ("number", (1, 3), wrong_numbers(), InvalidNumber)])

    def test_pieces_of_any_size(self):
        top, low = 3 ** 9000, 2 ** 9000
        self.assertEqual(at(((None, (top, low), (1, low)),), (1, 1)), number(Fraction(top + 1, low)))


class Even(unittest.TestCase):
    def expected(self, web, place, other, end):
        """Where both lines tell the same, found by their differences at some numbers alone."""
        one, two = line(web, place, end), line(web, other, end)
        starts = sorted({*starts_of(one), *starts_of(two)}) or [Fraction(0)]
        points = [starts[0] - 1, *starts, starts[-1] + 1]
        gaps = [fraction(worth(web.with_number(end, number(x)), place)) -
                fraction(worth(web.with_number(end, number(x)), other)) for x in points]
        found = set()
        for at_least, (x, y, gap, next_gap) in enumerate(zip(points, points[1:], gaps, gaps[1:])):
            if gap == next_gap == 0:
                return None
            if gap != next_gap:
                zero = x - gap * (y - x) / (next_gap - gap)
                if (at_least == 0 or x <= zero) and (at_least == len(points) - 2 or zero <= y):
                    found.add(zero)
        return tuple(number(zero) for zero in sorted(found))

    def test_even_numbers_against_differences_at_some_numbers(self):
        random = some_random(11)
        counts = {}
        for mixes in (OURS, THEIRS):
            for web in some_webs(random, 60, inner=6, ends=3, mixes=mixes, most=4):
                end = random.choice(web.ends)
                for _ in range(6):
                    place, other = random.choice(web.places), random.choice(web.places)
                    told = even_at(web, place, other, end)
                    self.assertEqual(told, self.expected(web, place, other, end))
                    self.assertEqual(told, even_at(web, other, place, end))
                    key = None if told is None else len(told)
                    counts[key] = counts.get(key, 0) + 1
                    for value in told or ():
                        changed = web.with_number(end, value)
                        self.assertEqual(worth(changed, place), worth(changed, other))
        self.assertTrue(all(counts.get(key, 0) > 5 for key in (None, 0, 1)), counts)

    def test_at_no_number_at_one_at_several_at_infinitely_many(self):
        web = Web.read("a ours x:0/1 y:0/1\nb chance x:1/2 z:1/2\nx end 0/1\ny end 0/1\nz end 1/1")
        self.assertEqual(even_at(web, "a", "b", "x"), ((-1, 1), (1, 1)))
        self.assertEqual(even_at(web, "b", "x", "x"), ((1, 1),))
        self.assertEqual(even_at(web, "y", "z", "x"), ())
        self.assertEqual(even_at(web.with_number("z", (-1, 1)), "a", "b", "x"), ())
        self.assertEqual(even_at(web.with_number("z", (0, 1)), "a", "b", "x"), ((0, 1),))
        self.assertIsNone(even_at(web, "a", "y", "x"))
        self.assertIsNone(even_at(web, "a", "x", "x"))
        self.assertIsNone(even_at(web, "b", "b", "x"))
        self.assertIsNone(even_at(web.with_number("y", (1, 1)), "y", "z", "x"))

    def test_where_pieces_meet(self):
        web = Web.read("a ours x:0/1 y:0/1\nx end 0/1\ny end 2/1\nz end 2/1")
        self.assertIsNone(even_at(web, "a", "z", "x"))
        self.assertEqual(even_at(web, "a", "z", "y"), ((2, 1),))
        touch = Web.read("a ours b:0/1 y:0/1\nb chance x:1/2 y:1/2\nc chance x:3/4 y:1/4\nx end 0/1\ny end 0/1")
        self.assertEqual(even_at(touch, "a", "c", "x"), ((0, 1),))


class Errors(unittest.TestCase):
    def test_every_signature(self):
        web, place = ("web", STREET, wrong_webs(), NotAWeb), ("place", "a", wrong_places(), UnknownPlace)
        end = ("end", "y", wrong_places(), UnknownPlace)
        check_signature(self, line, [web, place, end])
        check_signature(self, even_at, [web, place, ("other", "b", wrong_places(), UnknownPlace), end])

    def test_places_that_are_no_ends(self):
        for wrong in ("a", "b"):
            check_given(self, lambda: line(STREET, "a", wrong), InvalidPlace, wrong)
            check_given(self, lambda: even_at(STREET, "a", "b", wrong), InvalidPlace, wrong)
        check_given(self, lambda: even_at(STREET, "a", "c", "a"), UnknownPlace, "c")
        check_given(self, lambda: line(STREET, "c", "a"), UnknownPlace, "c")

    def test_mixed_webs_come_right_behind(self):
        both = Web.read("a ours x:0/1\nb theirs x:0/1\nx end 0/1")
        coin = Web.read("a ours x:0/1\nb coin x y\nx end 0/1\ny end 0/1")
        for web in (both, coin, DUEL):
            for call in (
                lambda: line(web, "a", "x"), lambda: line(web, None, "x"), lambda: line(end=Nasty(), place=[], web=web),
                lambda: even_at(web, "a", "b", "x"), lambda: even_at(web, 1, 2, 3), lambda: even_at(web, "a", "b", "a"),
            ):
                self.assertEqual(vars(raised(self, call, TooMixed)), {})
        self.assertEqual(len(line(ENDS, "x", "y")), 1)


if __name__ == "__main__":
    unittest.main()
