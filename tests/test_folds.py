import unittest
from fractions import Fraction

from placeworths.errors import (
    InvalidPlace, NotApart, NotAWeb, NotStruck, TooMany, Trapped, UnknownPlace,
)
from placeworths.folds import coarsest, folded, grafted, is_fold, struck
from placeworths.webs import Web
from placeworths.worths import worth, worths
from tests.helpers import Nasty, check_given, check_signature, fraction, number, odd_values, raised, some_random
from tests.webhelpers import (
    DUEL, ENDS, MIXES, NAMES, STREET, random_web, some_webs, table_of, wrong_places, wrong_webs,
)

TWIN = Web.read(
    "a chance b:1/2 c:1/2\nb ours y:0/1 z:1/1\nc ours y:0/1 z:1/1\ny end 0/1\nz end 3/1"
)
DRIFT = Web.read("a chance a:1/3 b:1/3 y:1/3\nb chance a:1/2 z:1/2\ny end 0/1\nz end 1/1")
LETTERS = "abcdefghijklmnopqrstuvwxyz"


def partings(places):
    """All partings of places into lots, each told in order."""
    if not places:
        yield ()
        return
    for rest in partings(places[1:]):
        yield ((places[0],), *rest)
        for at, lot in enumerate(rest):
            yield tuple(sorted([*rest[:at], (places[0], *lot), *rest[at + 1:]]))


def view(row, lots):
    """What a row tells with lots in the place of places, by the words of the document."""
    place, kind, what = row
    index = {one: at for at, lot in enumerate(lots) for one in lot}
    if kind == "end":
        return kind, what
    if kind == "coin":
        return kind, {index[to] for to in what}
    told = {}
    for to, value in what:
        told.setdefault(index[to], []).append(fraction(value))
    best = {"chance": sum, "ours": min, "theirs": max}[kind]
    return kind, {lot: best(values) for lot, values in told.items()}


def is_fold_by_words(web, lots):
    table = {row[0]: row for row in web.rows}
    return all(view(table[place], lots) == view(table[lot[0]], lots) for lot in lots for place in lot)


def plain_webs(seed, count):
    """Small webs, many places of which are alike."""
    random = some_random(seed)
    found = 0
    while found < count:
        web = random_web(random, random.randint(1, 4), random.randint(1, 3), MIXES[found % len(MIXES)], low=0, high=1)
        rows = []
        for place, kind, what in web.rows:
            if kind in ("ours", "theirs"):
                what = tuple((to, (value[0] % 2, 1)) for to, value in what)
            if kind == "chance":
                what = tuple((to, (1, len(what))) for to, _ in what)
            rows.append((place, kind, what))
        found += 1
        yield Web(tuple(rows))


class Folds(unittest.TestCase):
    def test_the_coarsest_fold_against_all_partings(self):
        sizes = []
        for web in plain_webs(1, 120):
            folds = [lots for lots in partings(web.places) if is_fold_by_words(web, lots)]
            fewest = min(len(lots) for lots in folds)
            told = coarsest(web)
            self.assertEqual([lots for lots in folds if len(lots) == fewest], [told])
            for lots in folds:
                self.assertTrue(all(any(set(lot) <= set(other) for other in told) for lot in lots))
            sizes.append(len(web.places) - fewest)
        self.assertTrue({0, 1, 2, 3} <= set(sizes))

    def test_is_fold_of_all_partings(self):
        counts = {True: 0, False: 0}
        for web in plain_webs(2, 60):
            for lots in partings(web.places):
                expected = is_fold_by_words(web, lots)
                self.assertIs(is_fold(web, lots), expected)
                counts[expected] += 1
        self.assertTrue(counts[True] > 100 and counts[False] > 500, counts)

    def test_the_worths_of_the_places_of_a_lot_are_the_same(self):
        for web in [*plain_webs(3, 150), *some_webs(some_random(4), 60, inner=9, ends=4)]:
            told, other = table_of(web, worths(web)), folded(web)
            lots = coarsest(web)
            self.assertEqual(other.places, tuple(lot[0] for lot in lots))
            values = table_of(other, worths(other))
            self.assertTrue(all(told[place] == values[lot[0]] for lot in lots for place in lot))
            self.assertEqual(coarsest(other), tuple((place,) for place in other.places))
            self.assertEqual([lots == tuple((place,) for place in web.places), type(other)], [web == other, Web])

    def test_the_rows_of_folded_webs(self):
        web = Web.read(
            "a chance c:1/4 d:1/4 e:1/4 f:1/4\nb ours c:3/1 d:-2/1 y:1/1 z:0/1\nc coin x y\nd coin x z\n"
            "e theirs c:3/1 d:-2/1 x:0/1\nf theirs c:1/1 d:3/1 x:0/1\nx end 1/1\ny end 0/1\nz end 0/1"
        )
        self.assertEqual(coarsest(web), (("a",), ("b",), ("c", "d"), ("e", "f"), ("x",), ("y", "z")))
        self.assertEqual(
            folded(web).text,
            "a chance c:1/2 e:1/2\nb ours c:-2/1 y:0/1\nc coin x y\ne theirs c:3/1 x:0/1\nx end 1/1\ny end 0/1",
        )

    def test_coins_that_go_round_are_folded(self):
        web = Web.read("a coin b x\nb coin a x\nc coin a b x\nx end 0/1\ny end 0/1")
        self.assertEqual([coarsest(web), folded(web).text], [(("a", "b", "c"), ("x", "y")), "a coin a x\nx end 0/1"])

    def test_one_lot_each(self):
        for web in (STREET, DUEL, DRIFT, ENDS, Web((("x", "end", (0, 1)),))):
            self.assertEqual([coarsest(web), folded(web)], [tuple((place,) for place in web.places), web])

    def test_equal_prices_told_twice_to_one_lot(self):
        one = "a ours y:2/1\nb ours y:2/1 z:2/1\nc ours y:2/1 z:3/1\nd ours y:1/1 z:2/1\ny end 0/1\nz end 0/1"
        web = Web.read(one)
        self.assertEqual(coarsest(web), (("a", "b", "c"), ("d",), ("y", "z")))
        self.assertEqual(folded(web).rows[0], ("a", "ours", (("y", (2, 1)),)))
        web = Web.read(one.replace("ours", "theirs"))
        self.assertEqual(coarsest(web), (("a", "b", "d"), ("c",), ("y", "z")))
        self.assertIs(is_fold(web, (("a", "b", "d"), ("c",), ("y", "z"))), True)
        self.assertIs(is_fold(web, (("a", "b", "c", "d"), ("y", "z"))), False)
        self.assertIs(is_fold(web, (("a", "b", "d"), ("c",), ("y",), ("z",))), False)
        self.assertIs(is_fold(web, (("a",), ("b",), ("c",), ("d",), ("y", "z"))), True)

    def test_24_places(self):
        rows = [(NAMES[at], "chance", ((NAMES[at + 8], (1, 1)),)) for at in range(16)]
        web = Web(tuple(rows) + tuple((NAMES[at], "end", (at % 2, 1)) for at in range(16, 24)))
        self.assertEqual([len(lot) for lot in coarsest(web)], [4] * 6)

    def test_partings_that_are_none(self):
        good = (("a",), ("b", "c"), ("y",), ("z",))
        self.assertIs(is_fold(TWIN, good), True)
        for wrong in odd_values() + [
            (), list(good), good[::-1], good[:3], good[1:], good + (("z",),), good + ((),), ((), *good),
            good + (("x",),), good[0], {"a": "b"}, "abcyz", ("a", "b", "c", "y", "z"), (b"a", b"b"),
            (["a"], *good[1:]), (("a",), ("c", "b"), ("y",), ("z",)), (("b", "c"), ("a",), ("y",), ("z",)),
            (("a",), ("b",), ("b", "c"), ("y",), ("z",)), (("a", "a"), ("b", "c"), ("y",), ("z",)),
            (("a",), ("b", "c"), ("y", None), ("z",)), (("a",), ("b", "c"), ("y", Nasty()), ("z",)),
            ("a", "bc", "y", "z"), (Nasty(), *good), (*good, Nasty()), (("a",), ("b", "c"), (("y",),), ("z",)),
            (("a",), ("bc",), ("y",), ("z",)),
            (("a", "b", "c", "y", "z"),), (("a",), ("b", "c"), ("y", "z")), (("a", "b"), ("c",), ("y",), ("z",)),
            (("a",), ("b", "c"), ("z",), ("y",)),
            (("a",), ("b",), ("y",), ("z",)), tuple((place, place) for place in TWIN.places),
        ]:
            with self.subTest(wrong=str(type(wrong))):
                self.assertIs(is_fold(TWIN, wrong), False)


class Struck(unittest.TestCase):
    def test_the_worths_of_the_others_stay(self):
        counts = {"struck": 0, "not": 0}
        for web in some_webs(some_random(11), 200, inner=7, ends=3):
            told = table_of(web, worths(web))
            for place, kind, _ in web.rows:
                others = [row for row in web.rows if row[1] != "chance" and place in web.arrows(row[0])]
                if kind != "chance":
                    check_given(self, lambda: struck(web, place), InvalidPlace, place)
                elif others:
                    self.assertEqual(vars(raised(self, lambda: struck(web, place), NotStruck)), {})
                    counts["not"] += 1
                else:
                    other = struck(web, place)
                    left = tuple(one for one in web.places if one != place)
                    self.assertEqual([other.places, type(other)], [left, Web])
                    values = table_of(other, worths(other))
                    self.assertEqual(values, {one: told[one] for one in values})
                    for row in web.rows:
                        if place not in web.arrows(row[0]):
                            self.assertTrue(row in other.rows or row[0] == place)
                    counts["struck"] += 1
        self.assertTrue(min(counts.values()) > 30, counts)

    def test_rows_with_the_chances_of_ways_through_the_place(self):
        for web in some_webs(some_random(12), 80, inner=6, ends=3, mixes=(("chance",),), most=4):
            for place, kind, what in web.rows:
                if kind == "chance":
                    out = {to: fraction(chance) for to, chance in what}
                    stays = out.pop(place, Fraction(0))
                    for row, past in zip([row for row in web.rows if row[0] != place], struck(web, place).rows):
                        told = {} if row[1] == "end" else {to: fraction(chance) for to, chance in row[2]}
                        through = told.pop(place, Fraction(0))
                        for to in out if through else ():
                            told[to] = told.get(to, 0) + through * out[to] / (1 - stays)
                        expected = row[2] if row[1] == "end" else tuple((to, number(told[to])) for to in sorted(told))
                        self.assertEqual(past, (row[0], row[1], expected))

    def test_a_place_that_leads_to_itself(self):
        web = Web.read("a chance b:1/2 x:1/2\nb chance b:2/3 x:1/6 y:1/6\nx end 0/1\ny end 4/1")
        self.assertEqual(struck(web, "b").text, "a chance x:3/4 y:1/4\nx end 0/1\ny end 4/1")
        self.assertEqual(struck(web, "a").text, "b chance b:2/3 x:1/6 y:1/6\nx end 0/1\ny end 4/1")
        self.assertEqual(struck(struck(web, "a"), "b"), Web.read("x end 0/1\ny end 4/1"))

    def test_a_place_to_which_no_arrow_leads(self):
        web = Web.read("a chance x:1/1\nb ours x:0/1 y:0/1\nx end 0/1\ny end 4/1")
        self.assertEqual(struck(web, "a").text, "b ours x:0/1 y:0/1\nx end 0/1\ny end 4/1")

    def test_arrows_of_ours_of_theirs_and_of_coins_to_it(self):
        for kind in ("ours b:0/1 x:0/1", "theirs b:0/1", "coin b x"):
            web = Web.read(f"a {kind}\nb chance x:1/2 y:1/2\nc chance b:1/1\nx end 0/1\ny end 1/1")
            raised(self, lambda: struck(web, "b"), NotStruck)
            self.assertEqual(struck(web, "c").places, ("a", "b", "x", "y"))

    def test_more_than_eight_arrows_afterwards(self):
        def wide(own, through):
            """A place with arrows to so many ends and to another one, which leads to so many further ends."""
            ends = [f"x{sign}" for sign in LETTERS[:own + through]]
            one = tuple((end, (1, own + 1)) for end in ["b", *ends[:own]])
            two = tuple((end, (1, through)) for end in ends[own:])
            return Web((("a", "chance", one), ("b", "chance", two), *[(end, "end", (0, 1)) for end in ends]))
        self.assertEqual(len(struck(wide(4, 4), "b").arrows("a")), 8)
        self.assertEqual(raised(self, lambda: struck(wide(4, 5), "b"), TooMany).limit, 8)
        self.assertEqual(raised(self, lambda: struck(wide(7, 2), "b"), TooMany).limit, 8)
        rows = wide(4, 5).rows + (("z", "coin", ("b",)),)
        raised(self, lambda: struck(Web(rows), "b"), NotStruck)
        self.assertEqual(len(struck(Web(rows), "a").places), 11)

    def test_many_places_struck_one_after_the_other(self):
        random = some_random(13)
        for _ in range(30):
            web = random_web(random, 6, 2, ("chance",))
            told = dict(zip(web.places, worths(web)))
            inner = [place for place in web.places if web.kind(place) == "chance"]
            while len(inner) > 1:
                web = struck(web, inner.pop(random.randrange(len(inner))))
            self.assertEqual(worth(web, inner[0]), told[inner[0]])
            self.assertTrue(set(web.arrows(inner[0])) <= {inner[0], *web.ends})


class Grafted(unittest.TestCase):
    def apart(self, web):
        """The web with other names for its places."""
        names = {place: f"z{LETTERS[at]}" for at, place in enumerate(web.places)}
        rows = []
        for place, kind, what in web.rows:
            if kind == "coin":
                what = tuple(sorted(names[to] for to in what))
            elif kind != "end":
                what = tuple(sorted((names[to], value) for to, value in what))
            rows.append((names[place], kind, what))
        return Web(tuple(rows))

    def test_worths_are_those_with_the_worth_of_the_start_at_the_end(self):
        random = some_random(21)
        trapped = 0
        for at in range(150):
            web, other = (random_web(random, random.randint(0, 5), random.randint(1, 3), MIXES[random.randint(0, 6)])
                          for _ in range(2))
            other = self.apart(other)
            end, start = random.choice(web.ends), random.choice(other.places)
            ending = web.is_ending and other.is_ending
            coins = all(row[1] in ("end", "coin") for row in web.rows + other.rows)
            if not ending and not coins:
                error = raised(self, lambda: grafted(web, end, other, start), Trapped)
                self.assertTrue(error.lot)
                trapped += 1
                continue
            told = grafted(web, end, other, start)
            self.assertEqual(set(told.places), set(web.places) - {end} | set(other.places))
            known = dict(zip(web.places, worths(web.with_number(end, worth(other, start)))))
            known.update(zip(other.places, worths(other)))
            self.assertEqual(worths(told), tuple(known[place] for place in told.places))
        self.assertTrue(5 < trapped < 100, trapped)

    def test_rows(self):
        web = Web.read("a coin b c\nb theirs c:1/1 d:2/1\nc end 0/1\nd end 0/1\ne chance c:1/2 d:1/2")
        other = Web.read("m ours n:0/1\nn end 5/1")
        self.assertEqual(
            grafted(web, "c", other, "m").text,
            "a coin b m\nb theirs d:2/1 m:1/1\nd end 0/1\ne chance d:1/2 m:1/2\nm ours n:0/1\nn end 5/1",
        )
        before = Web.read("a0 end 7/1")
        self.assertEqual(
            grafted(web, "d", before, "a0").text,
            "a coin b c\na0 end 7/1\nb theirs a0:2/1 c:1/1\nc end 0/1\ne chance a0:1/2 c:1/2",
        )

    def test_an_end_to_which_no_arrow_leads_and_a_web_of_one_end(self):
        other = Web.read("m ours n:1/2\nn end 5/1")
        self.assertEqual(grafted(Web.read("x end 0/1"), "x", other, "n"), other)
        self.assertEqual(grafted(ENDS, "y", other, "m").text, "m ours n:1/2\nn end 5/1\nx end 0/1")

    def test_places_that_are_in_both_webs(self):
        other = Web.read("m ours x:1/2\nx end 5/1")
        self.assertEqual(grafted(DRIFT, "y", other, "m").places, ("a", "b", "m", "x", "z"))
        self.assertEqual(vars(raised(self, lambda: grafted(STREET, "y", other, "m"), NotApart)), {})
        # The end itself goes: its name may come back.
        self.assertEqual(grafted(STREET, "x", other, "m").text,
                         "a ours b:1/2 m:0/1\nb chance a:1/2 y:1/2\nm ours x:1/2\nx end 5/1\ny end 3/1")
        self.assertEqual(grafted(STREET, "x", other, "x").rows[0], ("a", "ours", (("b", (1, 2)), ("x", (0, 1)))))
        raised(self, lambda: grafted(STREET, "x", STREET, "x"), NotApart)
        self.assertEqual(grafted(ENDS, "x", Web.read("x end 9/1"), "x").text, "x end 9/1\ny end 1/1")

    def test_more_than_24_places(self):
        one = Web(tuple((f"a{sign}", "end", (0, 1)) for sign in LETTERS[:13]))
        for many, good in ((11, True), (12, True), (13, False), (20, False)):
            other = Web(tuple((f"b{sign}", "end", (0, 1)) for sign in LETTERS[:many]))
            if good:
                self.assertEqual(len(grafted(one, "aa", other, "ba").places), 12 + many)
            else:
                self.assertEqual(raised(self, lambda: grafted(one, "aa", other, "ba"), TooMany).limit, 24)

    def test_what_is_neither_ending_nor_coin_rows(self):
        chance = Web.read("m chance n:1/1\nn end 0/1")
        self.assertEqual(raised(self, lambda: grafted(DUEL, "y", chance, "m"), Trapped).lot, ("a", "b"))
        other = Web.read("m coin n p\nn coin m q\np end 0/1\nq end 1/1")
        self.assertEqual(raised(self, lambda: grafted(STREET, "y", other, "q"), Trapped).lot, ("m", "n"))
        both = grafted(DUEL, "y", other, "m")
        self.assertEqual([both.is_coins, both.is_ending], [True, False])

    def test_the_last_errors_in_their_order(self):
        many = Web(tuple((f"b{sign}", "end", (0, 1)) for sign in LETTERS[:22]) + (("x", "chance", (("ba", (1, 1)),)),))
        raised(self, lambda: grafted(DUEL, "y", many, "ba"), NotApart)
        raised(self, lambda: grafted(DUEL, "x", many, "ba"), TooMany)


class Errors(unittest.TestCase):
    def test_every_signature(self):
        web, other = ("web", STREET, wrong_webs(), NotAWeb), Web.read("m ours n:0/1\nn end 5/1")
        check_signature(self, coarsest, [web])
        check_signature(self, folded, [web])
        place = ("place", "b", wrong_places(), UnknownPlace)
        check_signature(self, struck, [("web", DRIFT, wrong_webs(), NotAWeb), place])
        check_signature(self, grafted, [
            web, ("end", "y", wrong_places(), UnknownPlace), ("other", other, wrong_webs(), NotAWeb),
            ("start", "m", wrong_places() + ["a", "y"], UnknownPlace),
        ])
        for wrong in wrong_webs():
            check_given(self, lambda: is_fold(wrong, ()), NotAWeb, wrong)
            check_given(self, lambda: is_fold(lots=Nasty(), web=wrong), NotAWeb, wrong)

    def test_places_that_are_no_ends_or_no_chance_places(self):
        for wrong in ("a", "b"):
            check_given(self, lambda: grafted(STREET, wrong, None, None), InvalidPlace, wrong)
        for wrong in ("a", "x"):
            check_given(self, lambda: struck(STREET, wrong), InvalidPlace, wrong)
        for wrong in ("a", "b", "y"):
            check_given(self, lambda: struck(DUEL, wrong), InvalidPlace, wrong)


if __name__ == "__main__":
    unittest.main()
