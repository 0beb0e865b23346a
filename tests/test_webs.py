import unittest
from itertools import combinations

from placeworths.errors import InvalidNumber, InvalidText, InvalidWeb, NotAnEnd, Trapped, UnknownPlace
from placeworths.webs import Web, greatest_trap
from tests.helpers import (
    Nasty, check_given, check_signature, edits, number, odd_values, raised, some_random, wrong_numbers,
)

STREET_TEXT = "a ours b:1/2 x:0/1\nb chance a:1/2 y:1/2\nx end 1/1\ny end 3/1"
STREET = (
    ("a", "ours", (("b", (1, 2)), ("x", (0, 1)))), ("b", "chance", (("a", (1, 2)), ("y", (1, 2)))),
    ("x", "end", (1, 1)), ("y", "end", (3, 1)),
)
DUEL = (("a", "coin", ("b", "x")), ("b", "coin", ("a", "y")), ("x", "end", (0, 1)), ("y", "end", (1, 1)))
LOOP = (("a", "ours", (("a", (0, 1)), ("x", (0, 1)))), ("x", "end", (0, 1)))
X = ("x", "end", (0, 1))
NAMES = [f"{first}{second}" for first in "abc" for second in "0123456789"]


def chain_of(count):
    """Rows of so many places, each one's arrow leading to the next one, the last one an end."""
    rows = [(NAMES[k], "ours", ((NAMES[k + 1], (k, 1)),)) for k in range(count - 1)]
    return tuple(rows + [(NAMES[count - 1], "end", (5, 1))])


def fan_of(count, kind="theirs"):
    """Rows of a place with so many arrows to ends."""
    ends = NAMES[:count]
    told = {
        "theirs": tuple((end, (-1, 2)) for end in ends), "chance": tuple((end, (1, count)) for end in ends),
        "coin": tuple(ends),
    }
    return (("a", kind, told[kind]),) + tuple((end, "end", (0, 1)) for end in ends)


def wrong_rows():
    """Values that are no rows of a web."""
    wrongs = odd_values() + [(), 0, X, [X], (X, None), (X, X), (None, X), (Nasty(), X), chain_of(25), {X: X}]
    wrongs += [(list(X),), (X[:2],), ((*X, ()),), (("x", "end", [0, 1]),), STREET_TEXT, (X, ("a", "end", (0, 1)))]
    for place in odd_values() + [
        "A", "aA", "1", "1a", "abcd", "a b", "a_", "_a", "a-", " a", "a\n", "\u00e9", "a\u00e9",
        "a\u0661", 1, ("a",), b"a",
        "a{", "a`", "`", "{", "a/", "a:", "0", "9",
    ]:
        wrongs.append(((place, "end", (0, 1)),))
    for kind in odd_values() + [
        "End", "END", "end ", "our", "theirs ", "coins", "chances", 0, ("end",), b"end", "en", "nd", "c", "t",
    ]:
        wrongs.append((("x", kind, (0, 1)),))
        wrongs.append((("a", kind, (("x", (1, 1)),)), X))
        wrongs.append((("a", kind, ("x",)), X))
    for value in wrong_numbers():
        wrongs.append((("x", "end", value),))
        for kind in ("ours", "theirs", "chance"):
            wrongs.append((("a", kind, (("x", value),)), X))
    for arrows in wrong_arrows():
        for kind in ("ours", "theirs", "chance"):
            wrongs.append((("a", kind, arrows), X, ("y", "end", (1, 1))))
    for arrows in odd_values() + [
        (), ["x"], ("x", "x"), ("y", "x"), ("x", "z"), ("z",), ("x", None), ("x", Nasty()), "x", "xy", (("x", (1, 1)),),
        (("x",),), {"x": 1}, ("x", "y", "y"), ("x", ""),
    ]:
        wrongs.append((("b", "coin", arrows), X, ("y", "end", (1, 1))))
    for chances in (((1, 2), (3, 2)), ((1, 2), (1, 3)), ((0, 1), (1, 1)), ((3, 2), (-1, 2)), ((1, 1), (1, 1))):
        arrows = tuple(zip(("x", "y"), chances))
        wrongs.append((("a", "chance", arrows), X, ("y", "end", (1, 1))))
    for kind in ("theirs", "chance", "coin"):
        wrongs.append(fan_of(9, kind))
    return wrongs


def wrong_arrows():
    """What does not tell arrows with prices or chances to x and y."""
    half, one = (1, 2), (1, 1)
    return odd_values() + [
        (), [("x", one)], (["x", one],), ("x", one), (("x",),), (("x", one, one),), (("x", half), ("x", half)),
        (("y", half), ("x", half)), (("x", half), ("z", half)), (("z", one),), ((Nasty(), one),), (Nasty(),),
        (("x", half), None), (("x", half), ("y",)), ("x",), ("x", "y"), ((one, "x"),), {"x": one},
        (("x", half), ("", half)), ((None, one),),
    ]


def is_trap(rows, lot):
    """Whether a lot of places is a trap, by the words of the document."""
    table = {place: (kind, what) for place, kind, what in rows}
    if not lot:
        return False
    for place in lot:
        kind, what = table[place]
        if kind == "end":
            return False
        inside = [(arrow if kind == "coin" else arrow[0]) in lot for arrow in what]
        if kind == "chance" and not all(inside) or kind != "chance" and not any(inside):
            return False
    return True


def all_traps(rows):
    places = [row[0] for row in rows]
    return [lot for size in range(1, len(places) + 1) for lot in combinations(places, size) if is_trap(rows, lot)]


def leads_out(rows):
    """Whether all inner places are coins, and from each one some way of arrows leads to an end."""
    table = {place: (kind, what) for place, kind, what in rows}
    for start, kind, _ in rows:
        if kind not in ("end", "coin"):
            return False
        seen, left = {start}, [start]
        while left:
            at = left.pop()
            if table[at][0] == "coin":
                left += [to for to in table[at][1] if to not in seen]
                seen |= set(table[at][1])
        if not any(table[at][0] == "end" for at in seen):
            return False
    return True


def random_rows(random, kinds):
    """Rows of some few places of the kinds, with or without traps."""
    places = sorted(random.sample(["a", "b", "c", "d1", "e", "x", "y9z"], random.randint(1, 6)))
    rows = []
    for place in places:
        kind = random.choice(kinds)
        to = sorted(random.sample(places, random.randint(1, min(3, len(places)))))
        if kind == "end":
            rows.append((place, kind, number(random.randint(-3, 3))))
        elif kind == "coin":
            rows.append((place, kind, tuple(to)))
        elif kind == "chance":
            rows.append((place, kind, tuple((one, (1, len(to))) for one in to)))
        else:
            rows.append((place, kind, tuple((one, number(random.randint(-2, 2))) for one in to)))
    return tuple(rows)


def some_rows(seed, count):
    random = some_random(seed)
    mixes = (
        ("end", "chance", "ours", "theirs", "coin"), ("end", "coin"), ("end", "end", "coin", "coin", "coin"),
        ("end", "chance"), ("chance", "chance", "ours", "end"), ("end", "end", "chance", "ours", "theirs"),
    )
    for at in range(count):
        yield random_rows(random, mixes[at % len(mixes)])


class Forms(unittest.TestCase):
    def test_every_signature_with_rows(self):
        check_signature(self, greatest_trap, [("rows", LOOP, wrong_rows(), InvalidWeb)])
        for wrong in wrong_rows():
            check_given(self, lambda: Web(wrong), InvalidWeb, wrong)
            check_given(self, lambda: Web(rows=wrong), InvalidWeb, wrong)

    def test_webs_of_one_place_and_of_24(self):
        web = Web((X,))
        self.assertEqual([web.places, web.ends, web.text], [("x",), ("x",), "x end 0/1"])
        self.assertEqual([web.is_ending, web.is_coins, greatest_trap((X,))], [True, False, ()])
        self.assertEqual(len(Web(chain_of(24)).places), 24)
        many = chain_of(25)
        check_given(self, lambda: Web(many), InvalidWeb, many)
        for kind, what in (("coin", ("a",)), ("theirs", (("a", (0, 1)),)), ("chance", (("a", (1, 1)),))):
            self.assertEqual(raised(self, lambda: Web((("a", kind, what),)), Trapped).lot, ("a",))

    def test_one_arrow_and_eight_and_nine(self):
        for kind in ("theirs", "chance", "coin"):
            self.assertEqual(len(Web(fan_of(1, kind)).arrows("a")), 1)
            self.assertEqual(len(Web(fan_of(8, kind)).arrows("a")), 8)
            wrong = fan_of(9, kind)
            check_given(self, lambda: Web(wrong), InvalidWeb, wrong)

    def test_places_of_one_two_and_three_signs(self):
        rows = tuple((place, "end", (0, 1)) for place in ("a", "a0", "a00", "a9z", "b", "zzz"))
        self.assertEqual(Web(rows).places, ("a", "a0", "a00", "a9z", "b", "zzz"))
        for wrong in (rows[::-1], rows + (rows[0],), (rows[0], rows[0]), (rows[1], rows[0])):
            check_given(self, lambda: Web(wrong), InvalidWeb, wrong)

    def test_signs_of_places(self):
        letters, digits = "abcdefghijklmnopqrstuvwxyz", "0123456789"
        for sign in [chr(code) for code in range(256)] + ["\u0101", "\u0661", "\uff41"]:
            for place, good in (
                (sign, sign in letters), (sign + "b", sign in letters), ("b" + sign, sign in letters + digits),
                ("b0" + sign, sign in letters + digits), ("b" + sign + "0", sign in letters + digits),
            ):
                rows = ((place, "end", (0, 1)),)
                if good:
                    self.assertEqual(Web(rows).places, (place,))
                else:
                    check_given(self, lambda: Web(rows), InvalidWeb, rows)

    def test_prices_of_any_sign_and_arrows_to_the_place_itself(self):
        rows = (("a", "theirs", (("x", (-7, 2)),)), ("b", "chance", (("b", (1, 3)), ("x", (2, 3)))), X)
        self.assertEqual(Web(rows).rows, rows)

    def test_the_form_is_looked_at_ahead_of_traps(self):
        wrong = (("a", "ours", (("a", (0, 1)),)), ("x", "end", (2, 2)))
        check_given(self, lambda: Web(wrong), InvalidWeb, wrong)


class Traps(unittest.TestCase):
    def test_greatest_traps_against_all_lots(self):
        sizes = []
        for rows in some_rows(1, 200):
            traps = all_traps(rows)
            union = tuple(sorted({place for lot in traps for place in lot}))
            sizes.append(len(union))
            self.assertEqual(greatest_trap(rows), union)
            self.assertEqual(greatest_trap(rows), max(traps, key=len, default=()))
        self.assertTrue({0, 1, 2, 3} <= set(sizes))

    def test_webs_are_of_ending_rows_or_of_coin_rows(self):
        told = []
        for rows in some_rows(2, 300):
            ending, coins = not all_traps(rows), leads_out(rows)
            told.append((ending, coins))
            if ending or coins:
                web = Web(rows)
                self.assertIs(web.is_ending, ending)
                self.assertIs(web.is_coins, coins and any(row[1] == "coin" for row in rows))
            else:
                self.assertEqual(raised(self, lambda: Web(rows), Trapped).lot, greatest_trap(rows))
                text = "\n".join(line_of(row) for row in rows)
                self.assertEqual(raised(self, lambda: Web.read(text), Trapped).lot, greatest_trap(rows))
        self.assertEqual(set(told), {(False, False), (False, True), (True, False), (True, True)})

    def test_rows_with_traps(self):
        error = raised(self, lambda: Web(LOOP), Trapped)
        self.assertEqual([error.lot, list(vars(error))], [("a",), ["lot"]])
        rows = (
            ("a", "chance", (("b", (1, 1)),)), ("b", "theirs", (("a", (0, 1)), ("x", (0, 1)))),
            ("c", "chance", (("a", (1, 2)), ("x", (1, 2)))), ("d", "ours", (("c", (0, 1)), ("d", (1, 1)))), X,
        )
        self.assertEqual(raised(self, lambda: Web(rows), Trapped).lot, ("a", "b", "d"))

    def test_coin_rows_with_and_without_traps(self):
        self.assertEqual([Web(DUEL).is_coins, Web(DUEL).is_ending, greatest_trap(DUEL)], [True, False, ("a", "b")])
        plain = (("a", "coin", ("x", "y")), X, ("y", "end", (0, 1)))
        self.assertEqual([Web(plain).is_coins, Web(plain).is_ending], [True, True])
        mixed = (("a", "coin", ("b", "x")), ("b", "chance", (("x", (1, 1)),)), X)
        self.assertEqual([Web(mixed).is_coins, Web(mixed).is_ending], [False, True])
        trapped = (("a", "coin", ("a", "b", "x")), ("b", "chance", (("x", (1, 1)),)), X)
        self.assertEqual(raised(self, lambda: Web(trapped), Trapped).lot, ("a",))

    def test_a_coin_from_which_no_way_leads_to_an_end(self):
        rows = (("a", "coin", ("b", "x")), ("b", "coin", ("b", "c")), ("c", "coin", ("b",)), X)
        self.assertEqual(raised(self, lambda: Web(rows), Trapped).lot, ("a", "b", "c"))
        long = (("a", "coin", ("b",)), ("b", "coin", ("a", "c")), ("c", "coin", ("b", "x")), X)
        self.assertEqual([Web(long).is_coins, Web(long).is_ending], [True, False])


def line_of(row):
    """The line of a row in a text."""
    place, kind, what = row
    if kind == "end":
        return f"{place} end {what[0]}/{what[1]}"
    if kind == "coin":
        return f"{place} coin {' '.join(what)}"
    return f"{place} {kind} {' '.join(f'{to}:{value[0]}/{value[1]}' for to, value in what)}"


class Parts(unittest.TestCase):
    def setUp(self):
        self.web = Web(STREET)
        self.wrong_places = odd_values() + ["", "c", "A", "aa", "a ", ("a",), b"a", Nasty(), "x1"]

    def webs(self, seed, count):
        for rows in some_rows(seed, count):
            if not all_traps(rows) or leads_out(rows):
                yield rows, Web(rows)

    def test_properties_and_methods(self):
        for rows, web in self.webs(3, 200):
            self.assertEqual(web.rows, rows)
            self.assertEqual(web.places, tuple(row[0] for row in rows))
            self.assertEqual(web.ends, tuple(row[0] for row in rows if row[1] == "end"))
            self.assertEqual(web.text, "\n".join(line_of(row) for row in rows))
            self.assertEqual(str(web), web.text)
            for place, kind, what in rows:
                arrows = () if kind == "end" else what if kind == "coin" else tuple(to for to, _ in what)
                self.assertEqual(web.kind(place), kind)
                self.assertEqual(web.arrows(place), arrows)
                self.assertEqual(web.number(place), what if kind == "end" else None)

    def test_with_number(self):
        for rows, web in self.webs(4, 100):
            for place, kind, _ in rows:
                if kind == "end":
                    other = web.with_number(place, (22, 7))
                    expected = tuple((place, "end", (22, 7)) if row[0] == place else row for row in rows)
                    self.assertEqual([other.rows, web.rows], [expected, rows])
                    self.assertIs(type(other), Web)
                    self.assertEqual([other.is_ending, other.is_coins], [web.is_ending, web.is_coins])
                else:
                    error = raised(self, lambda: web.with_number(place, (22, 7)), NotAnEnd)
                    self.assertEqual(vars(error), {})

    def test_signatures(self):
        place = ("place", "x", self.wrong_places, UnknownPlace)
        for method in (self.web.kind, self.web.arrows, self.web.number):
            check_signature(self, method, [place])
        check_signature(self, self.web.with_number, [place, ("number", (1, 2), wrong_numbers(), InvalidNumber)])

    def test_that_a_place_is_no_end_comes_last(self):
        check_given(self, lambda: self.web.with_number("a", 1), InvalidNumber, 1)
        check_given(self, lambda: self.web.with_number("c", 1), UnknownPlace, "c")
        raised(self, lambda: self.web.with_number(place="a", number=(1, 1)), NotAnEnd)

    def test_webs_stay_as_they_are(self):
        for name in ("rows", "places", "ends", "text", "is_ending", "is_coins"):
            with self.assertRaises(AttributeError):
                setattr(self.web, name, None)

    def test_equal_if_the_rows_are(self):
        same, other = Web(tuple(list(STREET))), self.web.with_number("x", (2, 1))
        self.assertTrue(self.web == same and not self.web != same)
        self.assertTrue(self.web != other and not self.web == other)
        self.assertTrue(self.web == other.with_number("x", (1, 1)))
        for value in (STREET, STREET_TEXT, None, 0, True, object(), Web):
            self.assertTrue(self.web != value and not self.web == value)
            self.assertTrue(value != self.web and not value == self.web)


class Texts(unittest.TestCase):
    def test_texts_and_back(self):
        self.assertEqual([Web.read(STREET_TEXT).rows, Web(STREET).text], [STREET, STREET_TEXT])
        self.assertEqual(Web.read(text="x end -1/2").rows, (("x", "end", (-1, 2)),))
        for rows in some_rows(5, 200):
            if not all_traps(rows) or leads_out(rows):
                self.assertEqual(Web.read("\n".join(line_of(row) for row in rows)), Web(rows))
        for rows in (chain_of(24), fan_of(8), fan_of(8, "chance"), fan_of(8, "coin"), DUEL):
            self.assertEqual(Web.read(Web(rows).text).rows, rows)

    def test_what_is_no_text(self):
        for value in odd_values() + [STREET, STREET_TEXT.encode(), [STREET_TEXT], STREET_TEXT.split("\n"), Web(STREET)]:
            check_given(self, lambda: Web.read(value), InvalidText, value)

    def test_texts_of_traps(self):
        self.assertEqual(raised(self, lambda: Web.read("a ours a:0/1 x:0/1\nx end 0/1"), Trapped).lot, ("a",))
        text = "a ours a:0/1 x:0/1\nx end 0/2"
        check_given(self, lambda: Web.read(text), InvalidText, text)

    def test_texts_with_something_wrong(self):
        for text in (
            "", "\n", " ", "  ", "x", "x end", "x end ", "x  end 0/1", "x end  0/1", " x end 0/1", "x end 0/1 ",
            "x end 0/1\n",
            "\nx end 0/1", "x end 0/1\n\ny end 0/1", "x end 0/1\r\ny end 0/1", "x end 0", "x end 0/1 0/1", "x end 0/2",
            "x end 2/2", "x end 1/0", "x end -0/1", "x end +1/1", "x end 01/1", "x end 1/01", "x end 1/-1",
            "x end x:0/1",
            "x end :0/1", "X end 0/1", "xxxx end 0/1", "1 end 0/1", "x End 0/1", "x\tend 0/1", "end 0/1", "x end 0/1;",
            "y end 0/1\nx end 0/1", "x end 0/1\nx end 0/1", "x end 0/1 y end 0/1", "x end 0/1 / y end 0/1",
            "x end 1/1/1",
            "a coin\nx end 0/1", "a coin \nx end 0/1", "a coin x x\nx end 0/1", "a coin y\nx end 0/1",
            "a coin x:1/1\nx end 0/1", "a coin x \nx end 0/1", "a coin  x\nx end 0/1", "a coin x,\nx end 0/1",
            "a coin y x\nx end 0/1\ny end 0/1", "a coin x  y\nx end 0/1\ny end 0/1",
            "a ours\nx end 0/1", "a ours x\nx end 0/1", "a ours x:\nx end 0/1", "a ours x:0\nx end 0/1",
            "a ours x:0/1:\nx end 0/1", "a ours :0/1\nx end 0/1", "a ours x:0/1 \nx end 0/1",
            "a ours  x:0/1\nx end 0/1",
            "a ours x :0/1\nx end 0/1", "a ours x: 0/1\nx end 0/1", "a ours x:0/1 x:1/1\nx end 0/1",
            "a ours x:-0/1\nx end 0/1",
            "a ours y:0/1\nx end 0/1", "a ours x/0:1\nx end 0/1", "a their x:0/1\nx end 0/1", "a  x:0/1\nx end 0/1",
            "a chance x:1/2\nx end 0/1", "a chance x:0/1\nx end 0/1", "a chance x:2/1\nx end 0/1",
            "a chance x:2/2\nx end 0/1",
            "a chance x:1/2 x:1/2\nx end 0/1", "a chance x\nx end 0/1", "a chance x:-1/1\nx end 0/1",
            "a chance x:1/2 y:1/3\nx end 0/1\ny end 0/1", "a chance x:0/1 y:1/1\nx end 0/1\ny end 0/1",
            "a chance y:1/2 x:1/2\nx end 0/1\ny end 0/1", "a end 0/1\na end 0/1", "x end \u0661/1",
        ):
            with self.subTest(text=text):
                check_given(self, lambda: Web.read(text), InvalidText, text)

    def test_each_text_with_a_sign_left_out_put_in_or_exchanged_is_none_or_that_of_another_web(self):
        for text in (STREET_TEXT, Web(DUEL).text):
            for other in edits(text, "-/: 01a\nxe"):
                try:
                    self.assertEqual(Web.read(other).text, other)
                except InvalidText as error:
                    self.assertIs(error.given, other)
                except Trapped as error:
                    self.assertTrue(error.lot)

    def test_each_line_left_out_put_twice_or_exchanged(self):
        lines = STREET_TEXT.split("\n")
        for at in range(len(lines)):
            for other in (lines[:at] + lines[at + 1:], lines[:at] + [lines[at]] + lines[at:], lines[at:] + lines[:at]):
                text = "\n".join(other)
                if other != lines:
                    check_given(self, lambda: Web.read(text), InvalidText, text)

    def test_24_and_25_lines(self):
        lines = [f"{place} end 0/1" for place in NAMES[:25]]
        self.assertEqual(len(Web.read("\n".join(lines[:24])).places), 24)
        text = "\n".join(lines)
        check_given(self, lambda: Web.read(text), InvalidText, text)

    def test_numbers_of_any_size(self):
        size = 3 ** 12000
        web = Web((X,)).with_number("x", (-size, 2))
        self.assertEqual(Web.read(web.text), web)
        self.assertTrue(web.text.startswith("x end -") and web.text.endswith("/2"))


if __name__ == "__main__":
    unittest.main()
