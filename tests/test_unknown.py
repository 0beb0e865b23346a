import unittest
from fractions import Fraction
from itertools import product

from placeworths.errors import InvalidPlace, InvalidUnknown, NotAnUnknown, NotAWeb, TooMany, UnknownPlace
from placeworths.unknown import Unknown, asks, filled, ranges, sure_best, sure_order
from placeworths.webs import Web
from placeworths.worths import best_arrows, worths
from tests.helpers import Nasty, check_given, check_signature, fraction, number, odd_values, raised, some_random
from tests.helpers import wrong_numbers
from tests.webhelpers import DUEL, ENDS, NAMES, STREET, random_web, wrong_places, wrong_webs

FORK = Web.read("a ours x:0/1 y:0/1\nx end 0/1\ny end 3/1")
LOST = Unknown(FORK, (("x", ((0, 1), (2, 1), (5, 1))),))
KINDS = (
    ("chance", "ours", "theirs"), ("chance", "ours"), ("coin", "ours", "chance", "theirs"), ("coin",),
    ("theirs", "ours"),
)


def ends_alone(count):
    """A web of so many ends, and one of ours that leads to the first ones."""
    return Web((("a", "ours", tuple((name, (0, 1)) for name in NAMES[1:min(count, 8) + 1])),
                *[(name, "end", (0, 1)) for name in NAMES[1:count + 1]]))


def counting(web, sizes):
    """Choices of the first ends, of so many numbers from 0 on."""
    return tuple((end, tuple((k, 1) for k in range(size))) for end, size in zip(web.ends, sizes))


def some_numbers(random, count):
    """So many ascending numbers."""
    return tuple(number(Fraction(value, 2)) for value in sorted(random.sample(range(-6, 7), count)))


def some_unknown(seed, count, inner=4, ends=3):
    random = some_random(seed)
    for at in range(count):
        web = random_web(random, random.randint(1, inner), random.randint(1, ends), KINDS[at % len(KINDS)])
        known = sorted(random.sample(web.ends, random.randint(1, len(web.ends))))
        yield Unknown(web, tuple((end, some_numbers(random, random.randint(2, 4))) for end in known))


def fillings(unknown):
    """All fillings, as pairs of the tuple of numbers and the web."""
    for numbers in product(*[numbers for _, numbers in unknown.choices]):
        web = unknown.web
        for (end, _), value in zip(unknown.choices, numbers):
            web = web.with_number(end, value)
        yield numbers, web


def fewest(known, best, sizes):
    """The least number of questions, by a search through all ways to ask: known tells what has been told."""
    left = [best[way] for way in best if all(way[at] == index for at, index in known.items())]
    if set.intersection(*map(set, left)):
        return 0
    return 1 + min(max(fewest({**known, at: index}, best, sizes) for index in range(size))
                   for at, size in enumerate(sizes) if at not in known)


class Fillings(unittest.TestCase):
    def test_how_many_there_are_and_each_one(self):
        for unknown in some_unknown(1, 60):
            told = list(fillings(unknown))
            self.assertEqual(len(unknown), len(told))
            self.assertTrue(unknown)
            for numbers, web in told:
                self.assertEqual(filled(unknown, numbers), web)
                self.assertIs(type(filled(unknown, numbers)), Web)

    def test_the_number_that_stands_in_the_web_does_not_count(self):
        for value in ((-100, 1), (9, 7)):
            other = Unknown(FORK.with_number("x", value), LOST.choices)
            self.assertEqual([ranges(other), sure_best(other), sure_order(other), asks(other, "a")],
                             [ranges(LOST), sure_best(LOST), sure_order(LOST), asks(LOST, "a")])
            self.assertEqual(filled(other, ((2, 1),)), FORK.with_number("x", (2, 1)))

    def test_what_is_no_filling(self):
        two = Unknown(DUEL, (("x", ((0, 1), (1, 1))), ("y", ((1, 2), (2, 1), (3, 1)))))
        good = ((1, 1), (2, 1))
        self.assertEqual(filled(two, good).text, "a coin b x\nb coin a y\nx end 1/1\ny end 2/1")
        for wrong in odd_values() + [
            (), list(good), good[:1], good[::-1], good + good, (good,), ((1, 1), (1, 1)), ((0, 1), (0, 1)), (1, 2),
            ((True, 1), (2, 1)), ((1, True), (2, 1)), ((1, 1), None), (Nasty(), (2, 1)), ((1, 1), Nasty()), good[0],
            ((1, 1), (4, 2)),
            ((Fraction(1), 1), (2, 1)), ([1, 1], (2, 1)), {"x": (1, 1), "y": (2, 1)}, (("x", (1, 1)), ("y", (2, 1))),
        ]:
            check_given(self, lambda: filled(two, wrong), InvalidUnknown, wrong)


class Sure(unittest.TestCase):
    def test_least_and_greatest_worths_of_all_fillings(self):
        for unknown in some_unknown(11, 100, inner=6):
            tables = [list(map(fraction, worths(web))) for _, web in fillings(unknown)]
            expected = tuple((place, number(min(told[at] for told in tables)), number(max(told[at] for told in tables)))
                             for at, place in enumerate(unknown.web.places))
            self.assertEqual(ranges(unknown), expected)

    def test_surely_best_arrows_of_all_fillings(self):
        counts = {True: 0, False: 0}
        for unknown in some_unknown(12, 120, inner=6):
            expected = []
            for place, kind, _ in unknown.web.rows:
                if kind in ("ours", "theirs"):
                    best = [best_arrows(web, place) for _, web in fillings(unknown)]
                    sure = tuple(to for to in unknown.web.arrows(place) if all(to in one for one in best))
                    expected.append((place, sure))
                    counts[bool(sure)] += 1
            self.assertEqual(sure_best(unknown), tuple(expected))
        self.assertTrue(min(counts.values()) > 20, counts)

    def test_the_sure_order_of_all_fillings(self):
        for unknown in some_unknown(13, 100, inner=5):
            tables = [dict(zip(web.places, map(fraction, worths(web)))) for _, web in fillings(unknown)]
            places = unknown.web.places
            expected = tuple((one, two) for one in places for two in places
                             if one != two and all(told[one] >= told[two] for told in tables))
            self.assertEqual(sure_order(unknown), expected)

    def test_a_side_without_places(self):
        coins = Unknown(DUEL, (("x", ((0, 1), (1, 2))),))
        self.assertEqual([sure_best(coins), ranges(coins)], [(), (
            ("a", (1, 3), (2, 3)), ("b", (2, 3), (5, 6)), ("x", (0, 1), (1, 2)), ("y", (1, 1), (1, 1)))])
        ends = Unknown(ENDS, (("x", ((0, 1), (1, 1))), ("y", ((1, 1), (2, 1)))))
        self.assertEqual([sure_best(ends), sure_order(ends)], [(), (("y", "x"),)])

    def test_arrows_that_are_best_in_all_but_one_filling(self):
        unknown = Unknown(FORK, (("x", ((1, 1), (3, 1))), ("y", ((3, 1), (4, 1)))))
        self.assertEqual([sure_best(unknown), sure_order(unknown)],
                         [(("a", ("y",)),), (("a", "x"), ("a", "y"), ("y", "a"), ("y", "x"))])
        over = Unknown(FORK, (("x", ((1, 1), (31, 10))), ("y", ((3, 1), (4, 1)))))
        self.assertEqual([sure_best(over), asks(over, "a")], [(("a", ()),), 2])


class Asks(unittest.TestCase):
    def test_fewest_questions_against_all_ways_to_ask(self):
        seen = {}
        for unknown in some_unknown(21, 250, inner=4, ends=4):
            sizes = [len(numbers) for _, numbers in unknown.choices]
            if len(unknown) > 100:
                continue
            webs = [web for _, web in fillings(unknown)]
            ways = list(product(*[range(size) for size in sizes]))
            for place, kind, _ in unknown.web.rows:
                if kind in ("ours", "theirs"):
                    best = {way: best_arrows(web, place) for way, web in zip(ways, webs)}
                    told = asks(unknown, place)
                    self.assertEqual(told, fewest({}, best, sizes))
                    seen[told] = seen.get(told, 0) + 1
        self.assertTrue({0, 1, 2} <= set(seen), seen)

    def test_no_question_and_one_arrow_alone(self):
        sure = Unknown(FORK, (("x", ((0, 1), (2, 1), (3, 1))),))
        self.assertEqual([asks(sure, "a"), sure_best(sure)], [0, (("a", ("y",)),)])
        alone = Unknown(Web.read("a theirs x:5/1\nx end 0/1"), (("x", ((0, 1), (9, 1))),))
        self.assertEqual([asks(alone, "a"), sure_best(alone)], [0, (("a", ("x",)),)])

    def test_what_is_asked_next_goes_by_what_has_been_told(self):
        web = Web.read("a ours u:0/1 v:0/1 w:0/1\nu end 0/1\nv end 0/1\nw end 0/1")
        numbers = ((0, 1), (9, 1))
        unknown = Unknown(web, (("u", ((2, 1), (5, 1), (20, 1))), ("v", numbers), ("w", ((1, 1), (3, 1)))))
        # The 20 is best at once, the 5 needs v alone; the 2 needs v, and w if v has 0.
        self.assertEqual(asks(unknown, "a"), 3)
        self.assertEqual(asks(Unknown(web.with_number("w", (1, 1)), unknown.choices[:2]), "a"), 2)
        less = Unknown(web.with_number("u", (8, 1)), unknown.choices[1:])
        self.assertEqual(asks(less, "a"), 1)

    def test_places_of_other_kinds(self):
        web = Web.read("a ours x:0/1\nb chance x:1/1\nc coin x\nx end 0/1")
        unknown = Unknown(web, (("x", ((0, 1), (1, 1))),))
        for place in "bcx":
            check_given(self, lambda: asks(unknown, place), InvalidPlace, place)
        self.assertEqual(asks(unknown, "a"), 0)

    def test_200_fillings_and_more(self):
        for sizes, good in (
            ((4, 4, 4, 3), True), ((2, 2, 2, 2, 2, 2, 3), True), ((4, 4, 4, 4), False), ((3, 3, 3, 2, 4), False),
        ):
            web = ends_alone(len(sizes))
            unknown = Unknown(web, counting(web, sizes))
            if good:
                self.assertTrue(1 <= asks(unknown, "a") <= len(sizes))
            else:
                self.assertEqual(raised(self, lambda: asks(unknown, "a"), TooMany).limit, 200)
                check_given(self, lambda: asks(unknown, NAMES[1]), InvalidPlace, NAMES[1])


class Forms(unittest.TestCase):
    def wrong_choices(self):
        """Values that are no choices for FORK."""
        good = ("x", ((0, 1), (2, 1)))
        other = ("y", ((0, 1), (2, 1)))
        wrongs = odd_values() + [
            (), list((good,)), good, (list(good),), (good, good), (other, good), (good, other, other), (good, None),
            ((*good, 1),), (("x",),), (("a", good[1]),), (("z", good[1]),), ((None, good[1]),), ((Nasty(), good[1]),),
            (Nasty(),), (("x", ()),),
            (("x", ((0, 1),)),), (("x", tuple((k, 1) for k in range(5))),), (("x", list(good[1])),), (("x", (0, 1)),),
            (("x", ((1, 1), (0, 1))),), (("x", ((1, 1), (1, 1))),), (("x", ((0, 1), (2, 2))),), (("x", None),),
            (("x", Nasty()),), (("x", ((0, 1), (2, 1), (1, 1))),), {"x": good[1]}, (("", good[1]),), ((b"x", good[1]),),
            (good, ("y", ((0, 1),))), "x",
        ]
        return wrongs + [(("x", (wrong, (99, 1))),) for wrong in wrong_numbers()] + [
            (("x", ((-99, 1), wrong)),) for wrong in wrong_numbers()]

    def test_every_signature(self):
        unknown = ("unknown", LOST, odd_values() + [FORK, LOST.choices, Unknown, (LOST,), Nasty(), DUEL], NotAnUnknown)
        place = ("place", "a", wrong_places(), UnknownPlace)
        check_signature(self, filled, [unknown, ("numbers", ((2, 1),), odd_values() + [(), ((1, 1),)], InvalidUnknown)])
        for function in (ranges, sure_best, sure_order):
            check_signature(self, function, [unknown])
        check_signature(self, asks, [unknown, place])
        check_signature(self, Unknown, [("web", FORK, wrong_webs() + [LOST], NotAWeb),
                                        ("choices", LOST.choices, self.wrong_choices(), InvalidUnknown)])

    def test_2000_fillings_and_more(self):
        for sizes, good in (
            ((4,) * 5, True), ((3, 3, 3, 3, 3, 2, 2, 2), True), ((4, 4, 4, 4, 4, 2), False), ((2,) * 11, False),
            ((4,) * 23, False), ((2,) * 10, True),
        ):
            web = ends_alone(len(sizes))
            choices = counting(web, sizes)
            if good:
                count = 1
                for size in sizes:
                    count *= size
                self.assertEqual(len(Unknown(web, choices)), count)
            else:
                self.assertEqual(raised(self, lambda: Unknown(web, choices), TooMany).limit, 2000)
                wrong = choices + (None,)
                check_given(self, lambda: Unknown(web, wrong), InvalidUnknown, wrong)

    def test_nearly_2000_fillings_are_looked_through(self):
        web = ends_alone(8)
        sizes = (3, 3, 3, 3, 3, 2, 2, 2)
        unknown = Unknown(web, counting(web, sizes))
        self.assertEqual([sure_best(unknown), ranges(unknown)[0], len(sure_order(unknown))],
                         [(("a", ()),), ("a", (0, 1), (2, 1)), 8])

    def test_properties_stay_as_they_are(self):
        self.assertEqual([LOST.web, LOST.choices], [FORK, (("x", ((0, 1), (2, 1), (5, 1))),)])
        for name in ("web", "choices"):
            with self.assertRaises(AttributeError):
                setattr(LOST, name, None)

    def test_equal_if_both_are(self):
        same = Unknown(Web(FORK.rows), tuple(list(LOST.choices)))
        other, more = Unknown(FORK.with_number("x", (1, 1)), LOST.choices), Unknown(FORK, (("x", ((0, 1), (2, 1))),))
        self.assertTrue(LOST == same and not LOST != same)
        for value in (other, more, FORK, LOST.choices, None, 3, object(), Unknown):
            self.assertTrue(LOST != value and not LOST == value and value != LOST and not value == LOST)
        self.assertTrue(Unknown(STREET, (("y", ((0, 1), (2, 1))),)) != Unknown(STREET, (("x", ((0, 1), (2, 1))),)))


if __name__ == "__main__":
    unittest.main()
