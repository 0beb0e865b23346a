import unittest

from placeworths.bids import need
from placeworths.books import Book
from placeworths.console import Console
from placeworths.errors import (
    Broken, InUse, InvalidLine, NotCoins, NothingToUndo, NotParts, Trapped, UnknownName, UnknownPlace,
)
from placeworths.plays import Play
from placeworths.webs import Web
from placeworths.worths import worths
from tests.bookhelpers import PlainBook, pool, random_claim, shown, shown_plain
from tests.helpers import Nasty, check_given, edits, odd_values, raised, some_random
from tests.webhelpers import DUEL, STREET

STREET_LINE = "s = a ours b:1/2 x:0/1 / b chance a:1/2 y:1/2 / x end 1/1 / y end 3/1"
DUEL_LINE = "l = a coin b x / b coin a y / x end 0/1 / y end 1/1"


def line_of(web):
    return web.text.replace("\n", " / ")


def written(number):
    return f"{number[0]}/{number[1]}"


def claim_line(claim):
    """The line of a claim."""
    word, name, *rest = claim
    return " ".join([name, word, *[one if type(one) is str else written(one) for one in rest]])


def filled_console():
    console = Console()
    console.say(STREET_LINE)
    console.say(DUEL_LINE)
    return console


class Driven(unittest.TestCase):
    """Consoles led by drawn lines, held behind each line against plain rows of webs and claims."""

    def random_line(self, random, plain, webs):
        """A line, the deed of the plain book for it, and what is answered if all goes well."""
        drawn = random.random()
        name = random.choice(("a", "b", "drop", "undo", "longname"))
        if drawn < 0.25:
            web = random.choice(webs)
            return f"{name} = {line_of(web)}", ("set", name, web), "ending" if web.is_ending else "coins"
        if drawn < 0.35:
            return f"drop {name}", ("drop", name), "ok"
        if drawn < 0.45:
            return "undo", ("undo",), "ok"
        claim = random_claim(random, plain)
        while claim[:1] == ("ending",) and claim[1] == "drop":
            claim = random_claim(random, plain)
        return claim_line(claim), ("claim", claim), "ok"

    def test_long_rows_of_lines(self):
        random = some_random(1)
        for _ in range(15):
            webs = pool(random)
            console, plain = Console(), PlainBook()
            for _ in range(80):
                line, deed, answer = self.random_line(random, plain, webs)
                due = plain.do(deed)
                if due is None:
                    self.assertEqual(console.say(line), answer)
                else:
                    self.assertEqual(vars(raised(self, lambda: console.say(line), due[0])), due[1])
                self.assertEqual(shown(console.book), shown_plain(plain))
                self.ask(random, console, plain)

    def ask(self, random, console, plain):
        """Asks for all that can be asked of some name."""
        before = shown(console.book)
        name = random.choice(["a", "b", "drop", "undo", "longname"])
        web = plain.webs.get(name)
        place = random.choice(web.places) if web else "a"
        if web is None:
            for line in (f"{name} worth a", f"{name} advice a", f"{name} need a"):
                self.assertEqual(vars(raised(self, lambda: console.say(line), UnknownName)), {"given": name})
            return
        table = dict(zip(web.places, worths(web)))
        self.assertEqual(console.say(f"{name} worth {place}"), written(table[place]))
        if name != "drop":
            self.assertEqual(console.say(f"{name} worths"), " ".join(map(written, worths(web))))
        self.assertEqual(console.say(f"{name} advice {place}"), Play(web, place).advice or "none")
        kinds = {row[1] for row in web.rows}
        if not kinds <= {"coin", "end"}:
            raised(self, lambda: console.say(f"{name} need {place}"), NotCoins)
        elif not all(0 <= what[0] <= what[1] for _, kind, what in web.rows if kind == "end"):
            raised(self, lambda: console.say(f"{name} need {place}"), NotParts)
        else:
            self.assertEqual(console.say(f"{name} need {place}"), written(need(web, place)))
        self.assertEqual(shown(console.book), before)


class Lines(unittest.TestCase):
    def test_a_new_console(self):
        console = Console()
        self.assertIs(type(console.book), Book)
        self.assertIs(console.book, console.book)
        self.assertEqual(shown(console.book), shown(Book()))
        self.assertTrue(console and console == console and console != Console())
        with self.assertRaises(AttributeError):
            console.book = Book()
        raised(self, lambda: console.say("undo"), NothingToUndo)
        raised(self, lambda: console.say(line="undo"), NothingToUndo)

    def test_setting_names(self):
        console = Console()
        self.assertEqual([console.say(STREET_LINE), console.say(DUEL_LINE)], ["ending", "coins"])
        self.assertEqual([console.book["s"], console.book["l"], console.book.changes], [STREET, DUEL, 2])
        self.assertEqual(console.say("s = x end -7/3"), "ending")
        self.assertEqual(console.book["s"].number("x"), (-7, 3))
        self.assertEqual(console.say("l = a coin x / x end 0/1"), "ending")
        self.assertEqual(console.say("s = a theirs b:-1/2 / b end 1/1"), "ending")
        self.assertEqual(console.book["s"].text, "a theirs b:-1/2\nb end 1/1")

    def test_the_book_can_be_led_beside_the_lines(self):
        console = filled_console()
        console.book["z"] = DUEL
        self.assertEqual([console.say("z worth a"), console.say("undo"), "z" in console.book], ["1/3", "ok", False])

    def test_claims_and_answers(self):
        console = filled_console()
        for line, claim in (
            ("s between a 2/1 5/2", ("between", "s", "a", (2, 1), (5, 2))),
            ("s between x -1/3 1/1", ("between", "s", "x", (-1, 3), (1, 1))),
            ("s above b a", ("above", "s", "b", "a")), ("s best a b", ("best", "s", "a", "b")),
            ("s ending", ("ending", "s")), ("l wins b 1/2", ("wins", "l", "b", (1, 2))),
            ("l wins y 1/1000000", ("wins", "l", "y", (1, 10 ** 6))), ("l wins a 1/1", ("wins", "l", "a", (1, 1))),
        ):
            self.assertEqual(console.say(line), "ok")
            self.assertEqual(console.book.claims[-1], claim)
        self.assertEqual([
            console.say("s worth a"), console.say("s worths"), console.say("s advice a"), console.say("s advice b"),
            console.say("s advice x"), console.say("l advice a"), console.say("l need b"), console.say("l need x"),
            console.say("l need y"), console.say("l worths"),
        ], ["2/1", "2/1 5/2 1/1 3/1", "b", "none", "none", "none", "1/3", "1/1", "0/1", "1/3 2/3 0/1 1/1"])
        self.assertEqual(console.book.changes, 10)

    def test_errors_of_what_is_done(self):
        console = filled_console()
        console.say("s between a 2/1 2/1")
        console.say("l wins b 1/2")
        before = shown(console.book)
        for line, error, told in (
            ("s between a 3/1 4/1", Broken, {"index": 2}), ("s between a 4/1 1/1", Broken, {"index": 2}),
            ("s above a b", Broken, {"index": 2}), ("s above a q", Broken, {"index": 2}),
            ("s best a x", Broken, {"index": 2}), ("s best b y", Broken, {"index": 2}),
            ("l ending", Broken, {"index": 2}), ("l wins b 1/3", Broken, {"index": 2}),
            ("l wins b 0/1", Broken, {"index": 2}), ("s wins a 1/1", Broken, {"index": 2}),
            ("l = x end 0/1", Broken, {"index": 1}), ("s = x end 2/1", Broken, {"index": 0}),
            ("drop s", InUse, {"index": 0}), ("drop l", InUse, {"index": 1}),
            ("s worth q", UnknownPlace, {"given": "q"}), ("s advice zz9", UnknownPlace, {"given": "zz9"}),
            ("l need q", UnknownPlace, {"given": "q"}), ("s need q", UnknownPlace, {"given": "q"}),
            ("s need a", NotCoins, {}), ("s need x", NotCoins, {}),
        ):
            self.assertEqual(vars(raised(self, lambda: console.say(line), error)), told)
            self.assertEqual(shown(console.book), before)
        console.say("h = a coin x / x end 3/2")
        raised(self, lambda: console.say("h need a"), NotParts)
        raised(self, lambda: console.say("h wins a 1/1"), Broken)

    def test_unknown_names(self):
        console = filled_console()
        before = shown(console.book)
        for line in (
            "q between a 1/1 2/1", "q between a 2/1 1/1", "q above a b", "q best a b", "q ending", "q wins a 1/2",
            "q worth a", "q worths", "q advice a", "q need a", "drop q", "drop ending", "drop worths", "drop drop",
            "drop undo", "abcdefgh worth q", "undo ending", "undo worths", "drop worth a", "ending ending",
        ):
            found = raised(self, lambda: console.say(line), UnknownName)
            name = line.split(" ")[1 if line.startswith("drop ") and line.count(" ") == 1 else 0]
            self.assertEqual(vars(found), {"given": name})
        self.assertEqual(shown(console.book), before)

    def test_a_line_of_two_words_that_begins_with_drop_drops(self):
        console = Console()
        for name in ("drop", "ending", "worths", "undo"):
            console.say(f"{name} = x end 1/1")
        self.assertEqual(console.say("drop worth x"), "1/1")
        self.assertEqual(console.say("undo worths"), "1/1")
        self.assertEqual(console.say("undo ending"), "ok")
        console.say("undo")
        self.assertEqual([console.say("drop ending"), console.book.names], ["ok", ("drop", "undo", "worths")])
        self.assertEqual([console.say("drop worths"), console.book.names], ["ok", ("drop", "undo")])
        self.assertEqual([console.say("drop undo"), console.book.names], ["ok", ("drop",)])
        self.assertEqual([console.say("drop drop"), console.book.names], ["ok", ()])
        self.assertEqual([console.say("undo"), console.book.names], ["ok", ("drop",)])

    def test_texts_with_traps(self):
        console = filled_console()
        before = shown(console.book)
        for text, lot in (
            ("a ours a:0/1 x:0/1 / x end 0/1", ("a",)), ("a coin a / x end 0/1", ("a",)),
            ("a chance b:1/1 / b theirs a:0/1 x:0/1 / x end 0/1", ("a", "b")), ("a chance a:1/1", ("a",)),
        ):
            for name in ("s", "new"):
                self.assertEqual(vars(raised(self, lambda: console.say(f"{name} = {text}"), Trapped)), {"lot": lot})
        self.assertEqual(shown(console.book), before)

    def test_texts_that_are_no_web(self):
        console = filled_console()
        for text in (
            "", " ", "/", " / ", "x", "x end", "x end 1", "x end 2/2", "x end 1/0", "x end -0/1", "x end 1/1 /",
            "x end 1/1 / ", " / x end 1/1", "/ x end 1/1", "x end 1/1 / x end 1/1", "y end 1/1 / x end 1/1",
            "x end 1/1 / / y end 1/1", "x end 1/1 /  y end 1/1", "x end 1/1  / y end 1/1", "x end 1/1/ y end 1/1",
            "x end 1/1 /y end 1/1", "x end 1/1\ny end 1/1", "x end 1/1 / y end 1/1\n", "\nx end 1/1", "x  end 1/1",
            "x end  1/1", "x end 1/1 ", " x end 1/1", "X end 1/1", "x fin 1/1", "a ours x / x end 1/1",
            "a coin x:1/2 / x end 1/1", "a chance x:1/2 / x end 1/1", "a ours b:0/1 / x end 1/1", "x end 1/1 / y",
            "x end 1/1, y end 1/1", "a coin x  y / x end 1/1 / y end 1/1", "a coin y x / x end 1/1 / y end 1/1",
            " / ".join(f"{first}{second} end 1/1" for first in "abc" for second in "0123456789"),
        ):
            line = f"s = {text}"
            check_given(self, lambda: console.say(line), InvalidLine, line)

    def test_all_values_that_are_no_lines(self):
        console = filled_console()
        for value in odd_values() + [Nasty(), STREET, ("undo",), ["undo"], b"undo", {"undo": 1}, 0, None, Console]:
            check_given(self, lambda: console.say(value), InvalidLine, value)

    def test_lines_that_are_none(self):
        console = filled_console()
        before = shown(console.book)
        for line in (
            "", " ", "undo ", " undo", "undo undo", "Undo", "undo\n", "un do", "drop", "drop ", "drop  s", "drop s ",
            "drop S", "drop a1", "drop abcdefghi", "drop s l", "drop =", "Drop s", "s", "s ", "s =", "s = ", "= x end 1/1",
            "s  = x end 1/1", "s =  x end 1/1", "s == x end 1/1", "s=x end 1/1", "S = x end 1/1", "s1 = x end 1/1",
            "abcdefghi = x end 1/1", "s := x end 1/1", " s = x end 1/1",
            "s between", "s between a", "s between a 1/1", "s between a 1/1 2/1 3/1", "s between a b 1/1 2/1",
            "s between a 2/2 3/1", "s between a 1/1 6/3", "s between a 1 2", "s between a 1/0 2/1", "s between a 1/-1 2/1",
            "s between a -0/1 2/1", "s between a +1/1 2/1", "s between a 01/1 2/1", "s between a 1/01 2/1",
            "s between A 1/1 2/1", "s between abcd 1/1 2/1", "s between 1/1 2/1", "s  between a 1/1 2/1",
            "s between  a 1/1 2/1", "s between a 1/1  2/1", "s between a 1/1 2/1 ", "s between a 1/ 1 2/1",
            "s between a (1,1) (2,1)", "s between a 1.5 2.5", "s Between a 1/1 2/1", "s between a 1/1, 2/1",
            "s above", "s above a", "s above a b x", "s above a  b", "s above A b", "s above a 1", "s above ab12 b",
            "s best", "s best a", "s best a b x", "s best a B", "s best a -", "s ending a", "s  ending", "s ending ",
            "s endings", "s End", "s wins", "s wins a", "s wins a 1/2 1/2", "s wins 1/2 a", "s wins a 2/4", "s wins a 1",
            "s wins a 0", "s wins a 1/", "l wins a 1/1000001", "l wins a 500000/1000001", "l wins a 0/2",
            "l wins a 1/100000000000", "l wins a -1/2", "l wins a 3/2", "l wins a 1000001/1000000", "l wins a 1/2 ",
            "s worth", "s worth a b", "s worth A", "s worth  a", "s worth a ", "s worths a", "s worths ", "s  worths",
            "s advice", "s advice a b", "s advice 1a", "s need", "s need a b", "s need a/b", "s need abcd", "s plan a",
            "s lift 0", "lift 0", "l lift", "s undo", "s drop", "worth s a", "s s", "s worth: a", "s\tworth\ta",
            "s worth a\n", "\ns worth a", "s worth\na", "s between a 1/1\n2/1", "between s a 1/1 2/1",
        ):
            with self.subTest(line=line):
                check_given(self, lambda: console.say(line), InvalidLine, line)
        self.assertEqual(shown(console.book), before)

    def test_names_that_are_unknown_come_behind_lines_that_are_none(self):
        console = Console()
        for line in ("q worth", "q between a 2/2 3/1", "q wins a 1/1000001", "drop Q", "q = x", "q above a"):
            check_given(self, lambda: console.say(line), InvalidLine, line)

    def test_shares_just_at_the_greatest_bottom(self):
        console = filled_console()
        self.assertEqual(console.say("l wins b 333337/1000000"), "ok")
        self.assertEqual(console.say("l wins b 999999/1000000"), "ok")
        raised(self, lambda: console.say("l wins b 333333/1000000"), Broken)
        for share in ("999999/1000001", "333334/1000003", "1000000/1000001"):
            line = f"l wins b {share}"
            check_given(self, lambda: console.say(line), InvalidLine, line)

    def test_lines_edited_at_each_point(self):
        console = filled_console()
        heads = ("between", "above", "best", "ending", "wins", "worth", "worths", "advice", "need", "=", "undo", "drop")
        counts = {True: 0, False: 0}
        for line in ("s worth a", "s above b a", "l wins b 1/2", "s between a 2/1 5/2", "undo", "drop s", "s ending",
                     "s = x end 1/1", "l = a coin x / x end 0/1"):
            for edited in edits(line, " a/:-=A1\n"):
                before = shown(console.book)
                good = False
                with console.book.trial():
                    try:
                        console.say(edited)
                        good = True
                    except InvalidLine as error:
                        self.assertIs(error.given, edited)
                    except (Broken, InUse, UnknownName, UnknownPlace, Trapped, NotCoins):
                        good = True
                words = edited.split(" ")
                if good:
                    self.assertTrue("" not in words and "\n" not in edited, edited)
                    self.assertTrue(words[0] in heads or words[1] in heads, edited)
                counts[good] += 1
                self.assertEqual(shown(console.book), before)
        self.assertTrue(min(counts.values()) > 50, counts)

    def test_undo_until_nothing_is_left_then_once_more(self):
        console = filled_console()
        console.say("s ending")
        for left in (2, 1, 0):
            self.assertEqual([console.say("undo"), console.book.changes], ["ok", left])
        for _ in range(2):
            self.assertEqual(vars(raised(self, lambda: console.say("undo"), NothingToUndo)), {})

    def test_advice_is_that_of_a_play(self):
        console = Console()
        console.say("t = a ours x:0/1 y:0/1 / b theirs x:0/1 y:0/1 z:-9/1 / x end 1/1 / y end 1/1 / z end 0/1")
        self.assertEqual([console.say(f"t advice {place}") for place in "abxyz"], ["x", "x", "none", "none", "none"])

    def test_numbers_of_many_digits(self):
        console = Console()
        top = 10 ** 39 + 3
        console.say(f"s = a chance x:1/{top} y:{top - 1}/{top} / x end -{top}/7 / y end 0/1")
        self.assertEqual(console.say("s worth a"), "-1/7")
        self.assertEqual(console.say(f"s between x -{top}/7 0/1"), "ok")
        names = [first + second for first in "ab" for second in "abcdefghijkl"][:23]
        rows = [f"{name} chance {names[0]}:{top - 1}/{top} {to}:1/{top}" for name, to in zip(names[1:], names[2:] + ["z"])]
        text = " / ".join([f"aa ours ab:1/{top}", *rows, "z end 1/3"])
        self.assertEqual(console.say("t = " + text), "ending")
        web = console.book["t"]
        self.assertEqual(web, Web.read(text.replace(" / ", "\n")))
        self.assertTrue(len(console.say("t worths")) > 900)
        self.assertEqual(console.say("t worth ab"), written(worths(web)[1]))


if __name__ == "__main__":
    unittest.main()
