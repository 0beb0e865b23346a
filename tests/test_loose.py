import unittest
from fractions import Fraction
from itertools import combinations, product

from placeworths.errors import InvalidLoose, NotALoose, NotAWeb, Trapped, UnknownPlace
from placeworths.loose import Loose, greatest, greatest_member, is_member, least, least_member, sure_arrows
from placeworths.webs import Web
from placeworths.worths import best_arrows, worths
from tests.helpers import Nasty, check_given, check_signature, fraction, number, odd_values, raised, some_random
from tests.helpers import wrong_numbers
from tests.webhelpers import DUEL, NAMES, STREET, allowed, some_webs, table_of, wrong_places, wrong_webs

SPAN = Loose((
    ("a", "chance", (("y", (1, 4), (1, 2)), ("z", (1, 2), (3, 4)))), ("o", "ours", (("a", (0, 1)), ("y", (0, 1)))),
    ("y", "end", ((0, 1), (1, 1))), ("z", "end", ((2, 1), (3, 1))),
))
X = ("x", "end", ((0, 1), (1, 1)))
Y = ("y", "end", ((2, 1), (2, 1)))


def tight(web):
    """The loose web that has the web as its only member."""
    return Loose(tuple(
        (place, kind, (what, what) if kind == "end" else tuple((to, one, one) for to, one in what)
         if kind == "chance" else what) for place, kind, what in web.rows
    ))


def corners(arrows):
    """All chances within bounds at which all but one are at a bound: dicts without chances of 0."""
    told = []
    for free in range(len(arrows)):
        others = [arrow for at, arrow in enumerate(arrows) if at != free]
        for ends in product((1, 2), repeat=len(others)):
            chances = {arrow[0]: fraction(arrow[end]) for arrow, end in zip(others, ends)}
            to, low, high = arrows[free]
            left = 1 - sum(chances.values())
            if fraction(low) <= left <= fraction(high):
                chances[to] = left
                told.append({one: chances[one] for one in chances if chances[one]})
    return [one for at, one in enumerate(told) if one not in told[:at]]


def within_bounds(random, arrows):
    """Some chances within the bounds: a mix of two corners."""
    one, two = random.choice(corners(arrows)), random.choice(corners(arrows))
    part = Fraction(random.randint(0, 3), 3)
    mixed = {arrow[0]: one.get(arrow[0], 0) * part + two.get(arrow[0], 0) * (1 - part) for arrow in arrows}
    return {to: mixed[to] for to in mixed if mixed[to]}


def member(rows, chances, numbers):
    """The web with these chances and numbers."""
    return Web(tuple(
        (place, kind, numbers[place] if kind == "end" else
         tuple((to, number(chances[place][to])) for to in sorted(chances[place])) if kind == "chance" else what)
        for place, kind, what in rows
    ))


def corner_members(rows):
    """All members with chances at corners and numbers of ends at bounds."""
    moved = [row for row in rows if row[1] == "chance"]
    ends = [row for row in rows if row[1] == "end"]
    for chances in product(*[corners(row[2]) for row in moved]):
        for numbers in product(*[row[2] for row in ends]):
            yield member(rows, {row[0]: one for row, one in zip(moved, chances)},
                         {row[0]: one for row, one in zip(ends, numbers)})


def random_bounds(random, count):
    """Bounds of so many arrows, with a low sum of at most 1 and a high sum of at least 1."""
    weights = [random.randint(1, 4) for _ in range(count)]
    chances = [Fraction(weight, sum(weights)) for weight in weights]
    told = []
    for chance in chances:
        low = chance * Fraction(random.choice((0, 0, 1, 2, 2)), 2)
        high = min(Fraction(1), chance + Fraction(random.choice((0, 1, 2, 4)), 4))
        told.append((number(low), number(high)))
    return told


def random_loose(random, inner, ends, kinds, most=3):
    """Some loose web of so many inner places and ends, of these kinds; rows with traps are left out."""
    while True:
        rows = random_rows(random, inner, ends, kinds, most)
        try:
            return Loose(rows)
        except Trapped:
            pass


def random_rows(random, inner, ends, kinds, most=3):
    places = sorted(random.sample(NAMES[:inner + ends + 2], inner + ends))
    last = random.sample(places, ends)
    rows = []
    for place in places:
        kind = "end" if place in last else random.choice(kinds)
        known = allowed(random, place, kind, places, last)
        to = sorted(random.sample(known, random.randint(1, min(most, len(known)))))
        if kind == "end":
            low = random.randint(-4, 4)
            rows.append((place, kind, (number(low), number(low + Fraction(random.randint(0, 4), 2)))))
        elif kind == "chance":
            bounds = random_bounds(random, len(to))
            rows.append((place, kind, tuple((one, low, high) for one, (low, high) in zip(to, bounds))))
        else:
            rows.append((place, kind, tuple((one, number(random.randint(-2, 2))) for one in to)))
    return tuple(rows)


KINDS = (("chance", "ours", "theirs"), ("chance", "ours"), ("chance",), ("chance", "theirs"))


def some_loose(seed, count, inner=4, ends=2, most=3):
    random = some_random(seed)
    for at in range(count):
        yield random_loose(random, random.randint(0, inner), random.randint(1, ends), KINDS[at % 4], most)


class Outer(unittest.TestCase):
    def test_least_and_greatest_against_all_corners(self):
        looked = 0
        for loose in some_loose(1, 160, inner=3):
            members = list(corner_members(loose.rows))
            if len(members) <= 150:
                tables = [worths(web) for web in members]
                low = [min(fraction(told[at]) for told in tables) for at in range(len(loose.places))]
                high = [max(fraction(told[at]) for told in tables) for at in range(len(loose.places))]
                self.assertEqual([list(map(fraction, least(loose))), list(map(fraction, greatest(loose)))], [low, high])
                looked += len(members) > 4
        self.assertTrue(looked > 40, looked)

    def test_told_members_are_members_and_have_the_outer_worths(self):
        for loose in some_loose(2, 150, inner=8, ends=4, most=5):
            low, high = least_member(loose), greatest_member(loose)
            self.assertEqual([type(low), type(high)], [Web, Web])
            self.assertEqual([is_member(loose, low), is_member(loose, high)], [True, True])
            self.assertEqual([worths(low), worths(high)], [least(loose), greatest(loose)])

    def test_no_member_of_a_sample_is_outside(self):
        random = some_random(3)
        for loose in some_loose(4, 80, inner=6, ends=3, most=4):
            low, high = table_of(loose, least(loose)), table_of(loose, greatest(loose))
            for _ in range(8):
                chances = {place: within_bounds(random, what) for place, kind, what in loose.rows if kind == "chance"}
                numbers = {place: random.choice(what) for place, kind, what in loose.rows if kind == "end"}
                web = member(loose.rows, chances, numbers)
                self.assertIs(is_member(loose, web), True)
                told = table_of(web, worths(web))
                self.assertTrue(all(low[place] <= told[place] <= high[place] for place in told))

    def test_chances_told_anew_at_each_move_bring_nothing_less_or_greater(self):
        for loose in some_loose(5, 100, inner=5, ends=3):
            for told, best in ((table_of(loose, least(loose)), min), (table_of(loose, greatest(loose)), max)):
                for place, kind, what in loose.rows:
                    if kind == "chance":
                        means = [sum(told[to] * chance for to, chance in one.items()) for one in corners(what)]
                        self.assertEqual(told[place], best(means))
                    elif kind == "end":
                        self.assertEqual(told[place], best(map(fraction, what)))
                    else:
                        brought = [told[to] - fraction(price) for to, price in what]
                        self.assertEqual(told[place], max(brought) if kind == "ours" else min(brought))

    def test_bounds_that_are_one_number(self):
        for web in some_webs(some_random(6), 80, inner=6, ends=3, mixes=KINDS):
            loose = tight(web)
            self.assertEqual([least(loose), greatest(loose)], [worths(web), worths(web)])
            self.assertEqual([least_member(loose), greatest_member(loose)], [web, web])
            self.assertIs(is_member(loose, web), True)
            for place in web.places:
                found = best_arrows(web, place)
                self.assertEqual(sure_arrows(loose, place), found)

    def test_chances_that_may_be_0(self):
        loose = Loose((("a", "chance", (("x", (0, 1), (1, 1)), ("y", (0, 1), (1, 1)))), X, Y))
        self.assertEqual([least(loose), greatest(loose)], [((0, 1), (0, 1), (2, 1)), ((2, 1), (1, 1), (2, 1))])
        self.assertEqual([least_member(loose).rows[0], greatest_member(loose).rows[0]],
                         [("a", "chance", (("x", (1, 1)),)), ("a", "chance", (("y", (1, 1)),))])
        none = Loose((("a", "chance", (("x", (0, 1), (0, 1)), ("y", (1, 2), (1, 1)))), X, Y))
        self.assertEqual(least(none)[0], (2, 1))
        self.assertIs(is_member(none, Web.read("a chance y:1/1\nx end 0/1\ny end 2/1")), True)
        self.assertIs(is_member(none, Web.read("a chance x:1/9 y:8/9\nx end 0/1\ny end 2/1")), False)

    def test_24_places_and_eight_arrows(self):
        rows = [(NAMES[at], "chance", tuple((NAMES[to], (0, 1), (1, 2)) for to in range(at + 1, min(at + 9, 24))))
                for at in range(16)]
        rows += [(NAMES[at], "end", ((at, 1), (2 * at, 1))) for at in range(16, 24)]
        loose = Loose(tuple(rows))
        self.assertEqual([least(loose)[15], greatest(loose)[15]], [(33, 2), (45, 1)])
        self.assertIs(is_member(loose, greatest_member(loose)), True)


class Members(unittest.TestCase):
    def member_text(self, **more):
        """The text of a member of SPAN, with other lines for some places, None for no line."""
        lines = {"a": "chance y:1/3 z:2/3", "o": "ours a:0/1 y:0/1", "y": "end 1/2", "z": "end 2/1", **more}
        return "\n".join(f"{place} {lines[place]}" for place in sorted(lines) if lines[place] is not None)

    def test_what_is_a_member(self):
        for more in (
            {}, {"a": "chance y:1/4 z:3/4"}, {"a": "chance y:1/2 z:1/2"}, {"y": "end 0/1"}, {"y": "end 1/1"},
            {"z": "end 3/1"}, {"z": "end 5/2"},
        ):
            self.assertIs(is_member(SPAN, Web.read(self.member_text(**more))), True, more)

    def test_what_is_no_member(self):
        for more in (
            {"a": "chance y:1/5 z:4/5"}, {"a": "chance y:3/5 z:2/5"}, {"a": "chance z:1/1"}, {"a": "chance y:1/1"},
            {"a": "chance o:1/9 y:1/3 z:5/9"}, {"a": "chance o:1/3 z:2/3"}, {"a": "coin y z"}, {"a": "end 1/3"},
            {"a": "ours y:1/3 z:2/3"}, {"o": "theirs a:0/1 y:0/1"}, {"o": "ours a:1/9 y:0/1"}, {"o": "ours a:0/1"},
            {"o": "ours y:0/1"}, {"o": "ours a:0/1 z:0/1"}, {"o": "ours a:0/1 y:0/1 z:0/1"}, {"o": "coin a y"},
            {"o": "chance a:1/2 y:1/2"}, {"o": "end 0/1"}, {"o": None}, {"o": None, "p": "ours a:0/1 y:0/1"},
            {"y": "end -1/9"}, {"y": "end 10/9"}, {"y": "chance z:1/1"}, {"z": "end 19/10"}, {"z": "end 31/10"},
            {"zz": "end 0/1"},
        ):
            self.assertIs(is_member(SPAN, Web.read(self.member_text(**more))), False, more)

    def test_members_that_leave_an_arrow_out(self):
        loose = Loose((("a", "chance", (("a", (0, 1), (1, 3)), ("x", (0, 1), (1, 1)), ("y", (0, 1), (1, 1)))), X, Y))
        for arrows, good in (
            ("x:1/1", True), ("y:1/1", True), ("a:1/3 x:2/3", True), ("a:1/2 x:1/2", False), ("x:1/2 y:1/2", True),
            ("a:1/4 x:1/4 y:1/2", True), ("a:1/3 y:2/3", True),
        ):
            self.assertIs(is_member(loose, Web.read(f"a chance {arrows}\nx end 0/1\ny end 2/1")), good)
        needed = Loose((("a", "chance", (("x", (1, 9), (1, 1)), ("y", (0, 1), (1, 1)))), X, Y))
        self.assertIs(is_member(needed, Web.read("a chance y:1/1\nx end 0/1\ny end 2/1")), False)
        self.assertIs(is_member(needed, Web.read("a chance x:1/1\nx end 0/1\ny end 2/1")), True)

    def test_webs_of_coins_are_no_members(self):
        self.assertIs(is_member(Loose((X, Y)), DUEL), False)
        self.assertIs(is_member(Loose((X, Y)), Web((("x", "end", (1, 2)), ("y", "end", (2, 1))))), True)


class Sure(unittest.TestCase):
    def test_sure_arrows_are_those_of_the_outer_worths(self):
        random = some_random(11)
        found = 0
        for loose in some_loose(12, 150, inner=6, ends=4, most=4):
            low, high = table_of(loose, least(loose)), table_of(loose, greatest(loose))
            told = {place: sure_arrows(loose, place) for place in loose.places}
            for place, kind, what in loose.rows:
                expected = []
                for to, price in what if kind in ("ours", "theirs") else ():
                    others = [(one, fraction(other)) for one, other in what if one != to]
                    if kind == "ours" and all(low[to] - fraction(price) >= high[one] - other for one, other in others):
                        expected.append(to)
                    sure = [high[to] - fraction(price) <= low[one] - other for one, other in others]
                    if kind == "theirs" and all(sure):
                        expected.append(to)
                self.assertEqual(told[place], tuple(expected))
                found += len(what) > 1 and len(expected) > 0
            for web in (least_member(loose), greatest_member(loose)):
                self.assertTrue(all(to in best_arrows(web, place) for place in told for to in told[place]))
            chances = {place: within_bounds(random, what) for place, kind, what in loose.rows if kind == "chance"}
            numbers = {place: random.choice(what) for place, kind, what in loose.rows if kind == "end"}
            web = member(loose.rows, chances, numbers)
            self.assertTrue(all(to in best_arrows(web, place) for place in told for to in told[place]))
        self.assertTrue(found > 20)

    def test_sure_arrows_just_at_the_bounds(self):
        loose = Loose((
            ("a", "ours", (("x", (-1, 1)), ("y", (1, 1)))), ("b", "theirs", (("x", (-1, 1)), ("y", (0, 1)))),
            ("c", "ours", (("x", (0, 1)), ("y", (0, 1)))), ("d", "ours", (("x", (5, 1)),)),
            ("e", "theirs", (("x", (-1, 1)), ("y", (1, 9)))), ("f", "ours", (("x", (-8, 9)), ("y", (1, 1)))), X, Y,
        ))
        self.assertEqual([sure_arrows(loose, place) for place in loose.places],
                         [("x",), ("x",), ("y",), ("x",), (), (), (), ()])

    def test_arrows_that_are_all_sure(self):
        loose = Loose((("a", "ours", (("x", (0, 1)), ("y", (0, 1)))), ("x", "end", Y[2]), Y))
        self.assertEqual(sure_arrows(loose, "a"), ("x", "y"))


class Traps(unittest.TestCase):
    def expected(self, rows):
        """The greatest lot that is a trap of some member, by a look at all lots and all corners of chances."""
        inner = [row for row in rows if row[1] != "end"]
        table = {row[0]: row for row in inner}
        traps = [()]
        for size in range(1, len(inner) + 1):
            for lot in combinations(list(table), size):
                if all(self.may_stay(table[place], lot) for place in lot):
                    traps.append(lot)
        return traps

    def may_stay(self, row, lot):
        _, kind, what = row
        if kind == "chance":
            return any(set(chances) <= set(lot) for chances in corners(what))
        return any(to in lot for to, _ in what)

    def test_greatest_traps_of_members_against_all_lots(self):
        random = some_random(21)
        seen = set()
        for at in range(200):
            rows = random_rows(random, random.randint(0, 4), random.randint(1, 2), KINDS[at % 4])
            traps = self.expected(rows)
            top = max(traps, key=len)
            self.assertTrue(all(set(lot) <= set(top) for lot in traps))
            seen.add(len(top))
            if top:
                error = raised(self, lambda: Loose(rows), Trapped)
                self.assertEqual(vars(error), {"lot": top})
            else:
                self.assertEqual(Loose(rows).rows, rows)
        self.assertTrue({0, 1, 2} <= seen)

    def test_lots_that_some_member_makes_a_trap_and_others_do_not(self):
        rows = (("a", "chance", (("a", (0, 1), (1, 1)), ("x", (0, 1), (1, 1)))), X)
        self.assertEqual(raised(self, lambda: Loose(rows), Trapped).lot, ("a",))
        for arrows, good in (
            ((("a", (0, 1), (99, 100)), ("x", (0, 1), (1, 1))), True),
            ((("a", (0, 1), (1, 1)), ("x", (1, 100), (1, 1))), True),
            ((("a", (0, 1), (1, 2)), ("b", (0, 1), (1, 2)), ("x", (0, 1), (1, 1))), False),
            ((("a", (0, 1), (1, 2)), ("b", (0, 1), (2, 5)), ("x", (0, 1), (1, 1))), True),
        ):
            told = (("a", "chance", arrows), ("b", "theirs", (("a", (0, 1)), ("x", (0, 1)))), X)
            if good:
                self.assertEqual(Loose(told).places, ("a", "b", "x"))
            else:
                self.assertEqual(raised(self, lambda: Loose(told), Trapped).lot, ("a", "b"))

    def test_the_form_is_looked_at_ahead_of_traps(self):
        wrong = (("a", "ours", (("a", (0, 1)),)), ("x", "end", ((1, 1), (0, 1))))
        check_given(self, lambda: Loose(wrong), InvalidLoose, wrong)
        self.assertEqual(raised(self, lambda: Loose((("a", "ours", (("a", (0, 1)),)),)), Trapped).lot, ("a",))


def wrong_loose_rows():
    """Values that are no rows of a loose web."""
    zero, half, one = (0, 1), (1, 2), (1, 1)
    wrongs = odd_values() + [(), 0, X, [X], (X, None), (X, X), (Y, X), STREET.rows, STREET, DUEL.rows, SPAN.text, SPAN]
    wrongs += [tuple((name, "end", (zero, one)) for name in NAMES[:25]), (list(X),), (X[:2],), ((*X, ()),)]
    for what in odd_values() + [
        zero, (zero,), (zero, zero, one), [zero, one], (one, zero), (zero, (1, 0)), (zero, (2, 2)), (True, False),
        (0, 1), ((2, 1), (3, 2)), (Nasty(), one), (one, Nasty()),
    ]:
        wrongs.append((("x", "end", what),))
    wrongs += [(("x", "end", (wrong, one)),) for wrong in wrong_numbers()]
    wrongs += [(("x", "end", (zero, wrong)),) for wrong in wrong_numbers()]
    wrongs += [(("a", "chance", (("x", wrong, one),)), X) for wrong in wrong_numbers()]
    wrongs += [(("a", "chance", (("x", zero, wrong),)), X) for wrong in wrong_numbers()]
    wrongs += [(("a", "ours", (("x", wrong),)), X) for wrong in wrong_numbers()]
    for arrows in odd_values() + [
        (), (("x", one),), (("x", one, one, one),), [("x", one, one)], (["x", one, one],), ("x", one, one),
        (("x", one, zero),), (("x", (-1, 2), one),), (("x", zero, (3, 2)),), (("x", zero, half),),
        (("x", half, half), ("y", (2, 3), one)), (("x", half, half), ("y", zero, (1, 3))), (("x", (3, 2), (3, 2)),),
        (("x", zero, one), ("y", (2, 3), (1, 3))), (("x", zero, one), ("y", zero, (3, 2))),
        (("x", zero, one), ("y", (-1, 2), one)), (("x", zero, one), ("y", zero, (2, 2))),
        (("x", one, zero), ("y", zero, one)), (("x", zero, one), ("y", Nasty(), one)),
        (("x", zero, one), ("y", None, one)), (("x", zero, 1), ("y", zero, one)),
        (("y", zero, one), ("x", zero, one)), (("x", zero, one), ("x", zero, one)), (("z", zero, one),),
        (("x", zero, one), ("z", zero, one)), (("x", zero, one), None), (Nasty(),), ((Nasty(), zero, one),),
        ((None, zero, one),), {"x": (zero, one)}, (("x", (zero, one)),), ("x",),
    ]:
        wrongs.append((("a", "chance", arrows), X, Y))
    for kind in ("ours", "theirs"):
        for arrows in (
            (), (("x", zero, one),), ("x",), (("z", zero),), (("y", zero), ("x", zero)), [("x", zero)], zero, None,
        ):
            wrongs.append((("a", kind, arrows), X, Y))
        wrongs.append((("a", kind, tuple((name, zero) for name in NAMES[:9])),
                       *[(name, "end", (zero, one)) for name in NAMES[:9]]))
    wrongs.append((("a", "chance", tuple((name, zero, one) for name in NAMES[:9])),
                   *[(name, "end", (zero, one)) for name in NAMES[:9]]))
    for kind in odd_values() + ["coin", "End", "chances", "our", b"end", ("end",), "c", ""]:
        wrongs += [(("a", kind, ("x",)), X), (("a", kind, (("x", zero),)), X), (("a", kind, (("x", zero, one),)), X),
                   (("x", kind, (zero, one)),)]
    for place in odd_values_without("a") + ["A", "abcd", "1", "", "a b"]:
        wrongs.append(((place, "end", (zero, one)),))
    return wrongs


def odd_values_without(*some):
    return [value for value in odd_values() if type(value) is not str or value not in some]


class Forms(unittest.TestCase):
    def test_every_signature(self):
        loose = ("loose", SPAN, odd_values() + [SPAN.rows, SPAN.text, STREET, DUEL, Loose, (SPAN,), Nasty()], NotALoose)
        place = ("place", "o", wrong_places(), UnknownPlace)
        for function in (least, greatest, least_member, greatest_member):
            check_signature(self, function, [loose])
        check_signature(self, is_member, [loose, ("web", STREET, wrong_webs() + [SPAN], NotAWeb)])
        check_signature(self, sure_arrows, [loose, place])
        check_signature(self, Loose, [("rows", SPAN.rows, wrong_loose_rows(), InvalidLoose)])

    def test_texts(self):
        self.assertEqual(SPAN.text, "a chance y:1/4,1/2 z:1/2,3/4\no ours a:0/1 y:0/1\ny end 0/1,1/1\nz end 2/1,3/1")
        loose = Loose((("a", "theirs", (("x", (-1, 2)), ("y", (3, 1)))), ("x", "end", ((-7, 3), (-7, 3))), Y))
        self.assertEqual(loose.text, "a theirs x:-1/2 y:3/1\nx end -7/3,-7/3\ny end 2/1,2/1")

    def test_properties_stay_as_they_are(self):
        self.assertEqual([SPAN.places, SPAN.rows[2]], [("a", "o", "y", "z"), ("y", "end", ((0, 1), (1, 1)))])
        for name in ("rows", "places", "text"):
            with self.assertRaises(AttributeError):
                setattr(SPAN, name, None)

    def test_equal_if_the_rows_are(self):
        same, other = Loose(tuple(list(SPAN.rows))), Loose((X, Y))
        self.assertTrue(SPAN == same and not SPAN != same and SPAN != other and not SPAN == other)
        web = Web((("x", "end", (0, 1)),))
        for value in (SPAN.rows, SPAN.text, None, 0, web, object(), Loose):
            self.assertTrue(SPAN != value and not SPAN == value and value != SPAN and not value == SPAN)
        self.assertTrue(web != tight(web) and tight(web) == tight(web))


if __name__ == "__main__":
    unittest.main()
