import unittest

from placeworths.books import Book
from placeworths.errors import (
    Broken, InUse, InvalidClaim, InvalidDeeds, InvalidIndex, InvalidName, NotAWeb, NothingToUndo, Trapped,
    UnknownName,
)
from placeworths.webs import Web
from tests.bookhelpers import (
    ENDING_COINS, HIGH_ENDS, LONE, LOW_ENDS, MIXED, PlainBook, THEIRS, holds, pool, random_deed, shown, shown_plain,
    wrong_claims,
)
from tests.helpers import Nasty, check_given, number, odd_values, raised, some_random
from tests.webhelpers import DUEL, ENDS, STREET, wrong_webs

WRONG_NAMES = [value for value in odd_values() if type(value) is not str or value in ("", " ", "A", "a b", "0/1")] + [
    "", "A", "abcdefghi", "a1", "a-b", "a_b", " a", "a ", "1", "aB", b"abc", ("abc",), ["abc"], Nasty(), 1, None, "a\n",
]
WRONG_INDEXES = [value for value in odd_values() if type(value) is not int] + [True, False, (0,), "0", [0], Nasty()]


class Stop(Exception):
    """Ends a trial, or comes out of a watch."""


def put(book, name, web):
    book[name] = web


def three():
    """A book of two webs and three claims."""
    book = Book()
    book["s"] = STREET
    book["d"] = DUEL
    book.claim(("between", "s", "a", (2, 1), (2, 1)))
    book.claim(("wins", "d", "b", (1, 2)))
    book.claim(("best", "s", "a", "b"))
    return book


class Driven(unittest.TestCase):
    """Books led by drawn deeds, each held behind each deed against plain rows of webs and claims."""

    def check_same(self, book, plain):
        self.assertEqual(shown(book), shown_plain(plain))
        for claim in book.claims:
            self.assertTrue(holds(claim, book[claim[1]]))

    def check_due(self, call, due):
        """Checks that a call does what it should, or raises the error that is due."""
        if due is None:
            self.assertIsNone(call())
            return
        found = raised(self, call, due[0])
        self.assertEqual(vars(found), due[1])

    def one(self, book, deed):
        word, told = deed[0], deed[1:]
        if word == "set":
            return put(book, *told)
        return {"drop": book.drop, "claim": book.claim, "lift": book.lift}[word](*told)

    def step(self, random, book, plain, webs, depth):
        drawn = random.random()
        if drawn < 0.62:
            deed = random_deed(random, plain, webs)
            self.check_due(lambda: self.one(book, deed), plain.do(deed))
        elif drawn < 0.74:
            self.check_due(book.undo, plain.undo())
        elif drawn < 0.9:
            self.several(random, book, plain, webs)
        elif depth < 3:
            self.trial(random, book, plain, webs, depth)
        self.check_same(book, plain)

    def several(self, random, book, plain, webs):
        """Deeds done at once, watched, with an error of the watch at times."""
        kept = plain.copy()
        deeds, tables, due = [], [], None
        for _ in range(random.randint(0, 6)):
            deed = random_deed(random, plain, webs)
            deeds.append(deed)
            if due is None:
                due = plain.do(deed)
                if due is None:
                    tables.append(shown_plain(plain))
        stop = random.randrange(len(tables)) if tables and random.random() < 0.3 else None
        seen = []

        def watch(one):
            self.assertIs(one, book)
            seen.append(shown(one))
            if len(seen) - 1 == stop:
                raise Stop()

        if stop is not None:
            with self.assertRaises(Stop):
                book.do_all(*deeds, watch=watch)
            self.assertEqual(seen, tables[:stop + 1])
        elif due is not None:
            self.assertEqual(vars(raised(self, lambda: book.do_all(*deeds, watch=watch), due[0])), due[1])
            self.assertEqual(seen, tables)
        elif random.random() < 0.5:
            self.assertEqual(book.do_all(*deeds), len(deeds))
        else:
            self.assertEqual(book.do_all(*deeds, watch=watch), len(deeds))
            self.assertEqual(seen, tables)
        if stop is not None or due is not None:
            plain.hold(kept)

    def trial(self, random, book, plain, webs, depth):
        kept = plain.copy()
        way = random.randrange(4)

        def rows(inner):
            self.assertIs(inner, book)
            for _ in range(random.randint(0, 6)):
                self.step(random, book, plain, webs, depth + 1)
            if way % 2:
                raise Stop()
            return "told"

        try:
            if way < 2:
                with book.trial() as inner:
                    rows(inner)
            else:
                self.assertEqual(book.tried(rows), "told")
            self.assertFalse(way % 2)
        except Stop:
            self.assertTrue(way % 2)
        plain.hold(kept)

    def test_long_rows_of_deeds(self):
        random = some_random(1)
        most = 0
        for _ in range(20):
            webs = pool(random)
            texts = [web.text for web in webs]
            book, plain = Book(), PlainBook()
            for _ in range(160):
                self.step(random, book, plain, webs, 0)
                most = max(most, len(book.claims))
            while plain.past:
                self.check_due(book.undo, plain.undo())
                self.check_same(book, plain)
            raised(self, book.undo, NothingToUndo)
            self.assertEqual([web.text for web in webs], texts)
        self.assertTrue(most >= 10, most)


class Names(unittest.TestCase):
    def test_a_new_book(self):
        book = Book()
        self.assertEqual(shown(book), ((), (), (), 0, 0, False))
        self.assertFalse(book)
        raised(self, book.undo, NothingToUndo)

    def test_webs_under_names_of_one_letter_and_of_eight(self):
        book = Book()
        for count, name in enumerate(("q", "a", "abcdefgh", "zzzzzzzz")):
            book[name] = DUEL
            self.assertIs(book[name], DUEL)
            self.assertEqual([len(book), book.changes, name in book], [count + 1, count + 1, True])
            self.assertTrue(book)
        self.assertEqual(book.names, ("a", "abcdefgh", "q", "zzzzzzzz"))

    def test_what_is_no_name(self):
        book = three()
        before = shown(book)
        for wrong in WRONG_NAMES:
            check_given(self, lambda: put(book, wrong, STREET), InvalidName, wrong)
            check_given(self, lambda: put(book, wrong, None), InvalidName, wrong)
        self.assertEqual(shown(book), before)

    def test_what_is_no_web(self):
        book = three()
        before = shown(book)
        for wrong in wrong_webs():
            check_given(self, lambda: put(book, "s", wrong), NotAWeb, wrong)
            check_given(self, lambda: put(book, "new", wrong), NotAWeb, wrong)
        self.assertEqual(shown(book), before)

    def test_names_that_the_book_does_not_have(self):
        book = three()
        before = shown(book)
        for wrong in WRONG_NAMES + ["t", "ss", "abcdefgh", book, ("s",), ["s"], {"s": 1}]:
            check_given(self, lambda: book[wrong], UnknownName, wrong)
            check_given(self, lambda: book.drop(wrong), UnknownName, wrong)
        self.assertEqual(shown(book), before)

    def test_values_of_any_kind_with_in(self):
        book = three()
        self.assertTrue("s" in book and "d" in book)
        for value in [*WRONG_NAMES, *wrong_webs(), "t", STREET, DUEL, book.claims[0], 0, book, ("s",), b"s", ["s"], {"s"}]:
            self.assertIs(value in book, False)
        self.assertFalse("s" in Book())

    def test_a_web_in_the_place_of_another_one(self):
        book = Book()
        book["s"] = STREET
        book["s"] = DUEL
        self.assertEqual([book["s"], len(book), book.changes], [DUEL, 1, 2])
        book.undo()
        self.assertIs(book["s"], STREET)
        book.undo()
        self.assertFalse("s" in book)

    def test_dropping(self):
        book = three()
        book["t"] = STREET
        self.assertIsNone(book.drop("t"))
        self.assertEqual([book.names, book.changes, "t" in book], [("d", "s"), 7, False])
        check_given(self, lambda: book.drop(name="t"), UnknownName, "t")
        book.undo()
        self.assertIs(book["t"], STREET)

    def test_dropping_a_name_in_use(self):
        book = three()
        before = shown(book)
        for name, index in (("s", 0), ("d", 1)):
            self.assertEqual(vars(raised(self, lambda: book.drop(name), InUse)), {"index": index})
        self.assertEqual(shown(book), before)
        book.lift(0)
        self.assertEqual(raised(self, lambda: book.drop("s"), InUse).index, 1)
        book.lift(1)
        book.drop("s")
        self.assertEqual(raised(self, lambda: book.drop("d"), InUse).index, 0)
        # Only the name of the web is in use, not what else stands in a claim.
        book["b"] = DUEL
        book["wins"] = DUEL
        book.drop("b")
        book.drop("wins")

    def test_books_are_equal_only_if_they_are_one_object(self):
        book = Book()
        self.assertTrue(book == book and not book != book)
        for other in (Book(), 0, (), {}, None, False):
            self.assertTrue(book != other and not book == other)
        self.assertTrue(three() != three())

    def test_a_book_is_not_iterated_over(self):
        with self.assertRaises(TypeError):
            iter(three())
        with self.assertRaises(TypeError):
            list(Book())

    def test_properties_cannot_be_set(self):
        book = three()
        for name in ("names", "claims", "changes"):
            with self.assertRaises(AttributeError):
                setattr(book, name, None)

    def test_two_books_do_not_touch_each_other(self):
        one, two = three(), three()
        one["x"] = DUEL
        one.lift(0)
        self.assertEqual([two.names, len(two.claims), Book().names], [("d", "s"), 3, ()])


class Claims(unittest.TestCase):
    def book_of(self, **webs):
        book = Book()
        for name, web in webs.items():
            book[name] = web
        return book

    def check(self, book, claim, good):
        """Checks that a claim is made, or breaks at once."""
        before = shown(book)
        if good:
            self.assertIsNone(book.claim(claim))
            self.assertEqual([book.claims, book.changes], [(*before[2], claim), before[3] + 1])
            self.assertIs(book.claims[-1], claim)
            book.undo()
        else:
            self.assertEqual(vars(raised(self, lambda: book.claim(claim), Broken)), {"index": len(before[2])})
        self.assertEqual(shown(book), before)

    def test_between_at_the_bounds(self):
        book = self.book_of(s=STREET, d=DUEL)
        for low, high, good in (
            ((2, 1), (2, 1), True), ((1, 1), (2, 1), True), ((2, 1), (3, 1), True), ((-9, 1), (99, 1), True),
            ((201, 100), (3, 1), False), ((1, 1), (199, 100), False), ((3, 1), (1, 1), False), ((2, 1), (1, 1), False),
            ((3, 1), (2, 1), False), ((2, 1), (10 ** 39 * 2 + 1, 10 ** 39), True), ((10 ** 39 * 2 + 1, 10 ** 39), (3, 1), False),
        ):
            self.check(book, ("between", "s", "a", low, high), good)
        self.check(book, ("between", "s", "x", (1, 1), (1, 1)), True)
        self.check(book, ("between", "s", "x", (0, 1), (0, 1)), False)
        self.check(book, ("between", "d", "b", (2, 3), (2, 3)), True)
        self.check(book, ("between", "d", "c", (-99, 1), (99, 1)), False)

    def test_above(self):
        book = self.book_of(s=STREET, d=DUEL, e=ENDS)
        for place in STREET.places:
            self.check(book, ("above", "s", place, place), True)
        self.check(book, ("above", "s", "b", "a"), True)
        self.check(book, ("above", "s", "a", "b"), False)
        self.check(book, ("above", "e", "y", "x"), True)
        self.check(book, ("above", "e", "x", "y"), False)
        for one, two in (("q", "q"), ("a", "q"), ("q", "a"), ("a", "c")):
            self.check(book, ("above", "s", one, two), False)

    def test_best(self):
        tied = Web.read("a ours x:0/1 y:0/1 z:0/1\nb theirs x:0/1 y:0/1 z:0/1\nx end 1/1\ny end 1/1\nz end 2/1")
        book = self.book_of(s=STREET, d=DUEL, t=tied, u=THEIRS)
        for place, to, good in (
            ("a", "z", True), ("a", "x", False), ("a", "y", False), ("b", "x", True), ("b", "y", True), ("b", "z", False),
            ("a", "q", False), ("q", "a", False), ("a", "a", False), ("x", "x", False), ("a", "b", False),
        ):
            self.check(book, ("best", "t", place, to), good)
        self.check(book, ("best", "s", "a", "b"), True)
        self.check(book, ("best", "s", "a", "x"), False)
        self.check(book, ("best", "s", "b", "y"), False)
        self.check(book, ("best", "d", "a", "x"), False)
        self.check(book, ("best", "d", "b", "y"), False)
        self.check(book, ("best", "u", "a", "x"), True)
        self.check(book, ("best", "u", "a", "b"), False)

    def test_ending(self):
        book = self.book_of(s=STREET, d=DUEL, e=ENDS, c=ENDING_COINS, m=MIXED)
        for name, good in (("s", True), ("d", False), ("e", True), ("c", True), ("m", True)):
            self.check(book, ("ending", name), good)

    def test_wins_just_at_the_need_and_above(self):
        book = self.book_of(d=DUEL, c=ENDING_COINS, l=LONE)
        for name, place, share, good in (
            ("d", "a", (2, 3), False), ("d", "a", (667, 1000), True), ("d", "a", (1, 1), True), ("d", "a", (0, 1), False),
            ("d", "b", (1, 3), False), ("d", "b", (167, 500), True),
            ("d", "y", (0, 1), False), ("d", "y", (1, 10 ** 30), True), ("d", "x", (1, 1), False),
            ("d", "q", (1, 1), False), ("c", "b", (3, 8), False), ("c", "b", (2, 5), True),
            ("l", "x", (2, 3), False), ("l", "x", (3, 4), True), ("l", "y", (0, 1), False), ("l", "y", (1, 9), True),
        ):
            self.check(book, ("wins", name, place, share), good)

    def test_wins_in_webs_of_other_kinds(self):
        book = self.book_of(s=STREET, h=HIGH_ENDS, l=LOW_ENDS, m=MIXED, e=Web.read("x end 0/1\ny end 5/4"))
        for name in "shlme":
            for place in book[name].places:
                self.check(book, ("wins", name, place, (1, 1)), False)
        chances = self.book_of(c=Web.read("a chance x:1/1\nx end 1/2"))
        self.check(chances, ("wins", "c", "a", (1, 1)), False)
        self.check(chances, ("wins", "c", "x", (1, 1)), False)

    def test_what_has_no_form_of_a_claim(self):
        book = self.book_of(a=DUEL)
        before = shown(book)
        for wrong in wrong_claims():
            check_given(self, lambda: book.claim(wrong), InvalidClaim, wrong)
        self.assertEqual(shown(book), before)

    def test_forms_come_ahead_of_names_whatever_these_are(self):
        book = self.book_of(a=DUEL)
        for name in [*WRONG_NAMES, "b", "aa", book, STREET, (), ("a",)]:
            for claim in (
                ("ending", name), ("above", name, "p", "q"), ("best", name, "p", "q"), ("wins", name, "p", (1, 2)),
                ("between", name, "p", (0, 1), (1, 1)), ("between", name, "p", (1, 1), (0, 1)),
            ):
                check_given(self, lambda: book.claim(claim), UnknownName, name)
            for wrong in (("ending", name, name), ("wins", name, "p", (3, 2)), ("above", name, "p", "P")):
                check_given(self, lambda: book.claim(claim=wrong), InvalidClaim, wrong)

    def test_lifting_in_the_middle_then_taking_it_back(self):
        book = three()
        claims = book.claims
        self.assertIsNone(book.lift(1))
        self.assertEqual([book.claims, book.changes], [(claims[0], claims[2]), 6])
        book.undo()
        self.assertEqual([book.claims, book.changes], [claims, 5])
        book.lift(index=0)
        book.lift(1)
        self.assertEqual(book.claims, (claims[1],))
        book.lift(0)
        self.assertEqual(book.claims, ())
        for _ in range(3):
            book.undo()
        self.assertEqual(book.claims, claims)

    def test_what_is_no_index_of_a_claim(self):
        book = three()
        before = shown(book)
        for wrong in WRONG_INDEXES + [3, -1, -3, 10 ** 30]:
            check_given(self, lambda: book.lift(wrong), InvalidIndex, wrong)
        self.assertEqual(shown(book), before)
        check_given(self, lambda: Book().lift(0), InvalidIndex, 0)

    def test_webs_put_under_claims_that_hold_and_that_break(self):
        book = three()
        before = shown(book)
        for web, index in (
            (STREET.with_number("y", (1, 1)), 0), (DUEL, 0), (ENDS, 0), (STREET.with_number("x", (3, 1)), 0),
        ):
            self.assertEqual(vars(raised(self, lambda: put(book, "s", web), Broken)), {"index": index})
        self.assertEqual(raised(self, lambda: put(book, "d", HIGH_ENDS), Broken).index, 1)
        self.assertEqual(raised(self, lambda: put(book, "d", STREET), Broken).index, 1)
        self.assertEqual(shown(book), before)
        put(book, "s", STREET.with_number("x", (-5, 1)))
        put(book, "d", DUEL.with_number("x", (1, 2)))
        self.assertEqual([book.claims, book.changes], [before[2], before[3] + 2])
        book.lift(0)
        self.assertEqual(raised(self, lambda: put(book, "s", DUEL), Broken).index, 1)

    def test_several_claims_that_would_break_at_once(self):
        book = Book()
        book["s"] = STREET
        book["t"] = STREET
        for claim in (
            ("ending", "t"), ("ending", "s"), ("above", "s", "b", "a"), ("between", "s", "a", (2, 1), (2, 1)),
            ("between", "s", "b", (5, 2), (5, 2)), ("above", "s", "y", "b"), ("best", "s", "a", "b"),
        ):
            book.claim(claim)
        low = STREET.with_number("y", (-3, 1))
        self.assertEqual(raised(self, lambda: put(book, "s", low), Broken).index, 2)
        self.assertEqual(raised(self, lambda: put(book, "s", DUEL), Broken).index, 1)
        self.assertEqual(raised(self, lambda: put(book, "s", STREET.with_number("y", (7, 2))), Broken).index, 3)
        self.assertEqual(raised(self, lambda: put(book, "t", DUEL), Broken).index, 0)
        put(book, "t", ENDS)

    def test_the_same_claim_twice(self):
        book = three()
        book.claim(book.claims[0])
        self.assertEqual([len(book.claims), book.claims[0], book.changes], [4, book.claims[3], 6])
        book.lift(0)
        self.assertEqual(raised(self, lambda: put(book, "s", ENDS), Broken).index, 1)


class Undone(unittest.TestCase):
    def test_changes_that_leave_all_as_it_was(self):
        book = three()
        put(book, "s", STREET)
        put(book, "s", Web(STREET.rows))
        self.assertEqual(book.changes, 7)
        for left in (6, 5):
            self.assertIsNone(book.undo())
            self.assertEqual([book.changes, book["s"], len(book.claims)], [left, STREET, 3])

    def test_undo_until_nothing_is_left_then_once_more(self):
        book = three()
        tables = [(("d", "s"), 3), (("d", "s"), 2), (("d", "s"), 1), (("d", "s"), 0), (("s",), 0), ((), 0)]
        for names, count in tables[1:]:
            book.undo()
            self.assertEqual([book.names, len(book.claims)], [names, count])
        for _ in range(2):
            self.assertEqual(vars(raised(self, book.undo, NothingToUndo)), {})
            self.assertEqual(shown(book), shown(Book()))
        book["q"] = LONE
        self.assertEqual([book.changes, book.names], [1, ("q",)])

    def test_what_failed_is_no_change(self):
        book = three()
        for call in (
            lambda: put(book, "", DUEL), lambda: put(book, "s", None), lambda: put(book, "s", DUEL), lambda: book.drop("s"),
            lambda: book.drop("q"), lambda: book.claim(None), lambda: book.claim(("ending", "d")), lambda: book.lift(3),
            lambda: book.claim(("ending", "q")), lambda: book.do_all(("lift", 0), ("lift", 2)), lambda: book["q"],
        ):
            with self.assertRaises((ValueError, LookupError, ArithmeticError)):
                call()
            self.assertEqual(shown(book), shown(three()))


class DoAll(unittest.TestCase):
    def check_fails(self, book, deeds, error, told, seen=()):
        """Checks that deeds fail with an error, behind these numbers of changes, and leave the book as it was."""
        before, counts = shown(book), []
        found = raised(self, lambda: book.do_all(*deeds, watch=lambda one: counts.append(one.changes)), error)
        self.assertEqual(vars(found), told)
        self.assertEqual(counts, list(seen))
        self.assertEqual(shown(book), before)
        raised(self, lambda: book.do_all(*deeds), error)
        self.assertEqual(shown(book), before)

    def test_several_changes_at_once(self):
        book = Book()
        done = book.do_all(
            ("set", "s", STREET), ("claim", ("ending", "s")), ("set", "t", DUEL), ("lift", 0), ("drop", "s"),
        )
        self.assertEqual([done, shown(book)], [5, (("t",), (("t", DUEL),), (), 5, 1, True)])
        for left in (4, 3, 2, 1, 0):
            book.undo()
            self.assertEqual(book.changes, left)

    def test_no_deeds(self):
        book, counts = three(), []
        before = shown(book)
        self.assertEqual([book.do_all(), book.do_all(watch=counts.append), book.do_all(watch=None)], [0, 0, 0])
        self.assertEqual([shown(book), counts], [before, []])

    def test_what_is_no_deed_ahead_of_all_deeds(self):
        wrongs = odd_values() + [
            (), ("set",), ("set", "s"), ("set", "s", DUEL, DUEL), ("drop",), ("drop", "s", "s"), ("claim",),
            ("claim", ("ending", "s"), 1), ("lift",), ("lift", 0, 0), ["drop", "t"], ("undo",), ("undo", 1), ("Drop", "t"),
            ("put", "s", DUEL), (None, "t"), (("drop",), "t"), ("drops", "t"), (b"drop", "t"), (Nasty(), 1), Nasty(),
            "drop t", {"drop": "t"}, ("", ""), ("trial", 1), ("ending", "s"), ("between", "s", "a", (0, 1), (1, 1)),
        ]
        good, fails = ("set", "t", DUEL), ("drop", "nothing")
        for wrong in wrongs:
            for deeds, index in (
                ((wrong,), 0), ((good, wrong), 1), ((good, good, wrong, good), 2), ((wrong, wrong), 0),
                ((fails, wrong), 1), ((good, fails, wrong), 2), ((wrong, fails), 0),
            ):
                with self.subTest(wrong=str(type(wrong)), deeds=len(deeds)):
                    self.check_fails(three(), deeds, InvalidDeeds, {"index": index})

    def test_a_deed_that_fails_behind_others(self):
        good = ("set", "t", STREET)
        for deed, error, told in (
            (("set", "T", DUEL), InvalidName, {"given": "T"}), (("set", "t", 5), NotAWeb, {"given": 5}),
            (("set", "s", ENDS), Broken, {"index": 0}), (("drop", "q"), UnknownName, {"given": "q"}),
            (("drop", "s"), InUse, {"index": 0}), (("claim", 5), InvalidClaim, {"given": 5}),
            (("claim", ("ending", "q")), UnknownName, {"given": "q"}),
            (("claim", ("ending", "d")), Broken, {"index": 3}), (("lift", 3), InvalidIndex, {"given": 3}),
            (("lift", True), InvalidIndex, {"given": True}), (("set", None, None), InvalidName, {"given": None}),
        ):
            self.check_fails(three(), (deed,), error, told)
            self.check_fails(three(), (good, deed), error, told, (6,))
            self.check_fails(three(), (good, ("drop", "t"), good, deed, ("lift", 99)), error, told, (6, 7, 8))

    def test_deeds_see_what_those_ahead_have_done(self):
        book = three()
        self.assertEqual(book.do_all(
            ("lift", 0), ("lift", 1), ("drop", "s"), ("set", "s", ENDS), ("claim", ("above", "s", "y", "x")), ("lift", 0),
        ), 6)
        self.assertEqual([book.claims, book["s"], book.changes], [(("above", "s", "y", "x"),), ENDS, 11])

    def test_watch_sees_each_effect(self):
        book, seen = Book(), []
        deeds = (("set", "s", STREET), ("claim", ("ending", "s")), ("lift", 0), ("drop", "s"))
        book.do_all(*deeds, watch=lambda one: seen.append((one is book, one.names, one.claims, one.changes, len(one))))
        self.assertEqual(seen, [
            (True, ("s",), (), 1, 1), (True, ("s",), (("ending", "s"),), 2, 1), (True, ("s",), (), 3, 1),
            (True, (), (), 4, 0),
        ])

    def test_a_watch_that_raises(self):
        for stop in range(3):
            book, seen = three(), []

            def watch(one):
                seen.append(one.changes)
                if len(seen) > stop:
                    raise Stop(stop)

            before = shown(book)
            with self.assertRaises(Stop) as caught:
                book.do_all(("lift", 0), ("set", "t", DUEL), ("drop", "t"), watch=watch)
            self.assertEqual(caught.exception.args, (stop,))
            self.assertEqual([shown(book), seen], [before, [6, 7, 8][:stop + 1]])

    def test_a_watch_with_trials(self):
        book, seen = three(), []

        def watch(one):
            with one.trial():
                while one.changes:
                    one.undo()
                seen.append(one.names)
            seen.append(one.tried(lambda inner: inner.do_all(("set", "z", LONE)) and inner.names))

        book.do_all(("lift", 0), ("set", "t", DUEL), watch=watch)
        self.assertEqual(seen, [(), ("d", "s", "z"), (), ("d", "s", "t", "z")])
        self.assertEqual([book.names, book.changes, len(book.claims)], [("d", "s", "t"), 7, 2])

    def test_a_watch_that_is_not_called_is_not_looked_at(self):
        book = three()
        self.assertEqual(book.do_all(watch=5), 0)
        check = raised(self, lambda: book.do_all(("drop",), watch=5), InvalidDeeds)
        self.assertEqual(check.index, 0)

    def test_within_trials(self):
        book = three()
        before = shown(book)
        with book.trial():
            self.assertEqual(book.do_all(("lift", 0), ("lift", 0)), 2)
            middle = shown(book)
            raised(self, lambda: book.do_all(("lift", 0), ("lift", 0)), InvalidIndex)
            self.assertEqual(shown(book), middle)
            with book.trial():
                book.undo()
                raised(self, lambda: book.do_all(("drop", "s")), InUse)
                book.do_all(("lift", 0), ("drop", "d"))
            self.assertEqual(shown(book), middle)
        self.assertEqual(shown(book), before)


class Trials(unittest.TestCase):
    def setUp(self):
        self.book = three()
        self.before = shown(self.book)

    def check_same(self):
        self.assertEqual(shown(self.book), self.before)

    def test_a_trial_ends_as_it_began(self):
        with self.book.trial() as book:
            self.assertIs(book, self.book)
            book["t"] = DUEL
            book.lift(1)
            book.drop("d")
            self.assertEqual([book.names, book.changes], [("s", "t"), 8])
        self.check_same()
        with self.book.trial():
            while self.book.changes:
                self.book.undo()
            raised(self, self.book.undo, NothingToUndo)
            self.book["z"] = LONE
        self.check_same()
        self.book.undo()
        self.assertEqual([len(self.book.claims), self.book.changes], [2, 4])

    def test_a_trial_ended_by_an_error(self):
        for error in (Stop, KeyError, Broken, KeyboardInterrupt):
            with self.assertRaises(error):
                with self.book.trial() as book:
                    book.lift(0)
                    raise error(3)
            self.check_same()
        with self.assertRaises(Broken) as caught:
            with self.book.trial() as book:
                book.lift(0)
                book.claim(("ending", "d"))
        self.assertEqual(caught.exception.index, 2)
        self.check_same()

    def test_a_trial_left_by_return(self):
        def left():
            with self.book.trial() as book:
                book.lift(0)
                return len(book.claims)
        self.assertEqual(left(), 2)
        self.check_same()

    def test_trials_within_trials_of_the_same_book(self):
        trial = self.book.trial()
        with trial as book:
            book.lift(0)
            middle = shown(book)
            with trial as inner:
                self.assertIs(inner, book)
                inner.lift(0)
                with self.book.trial():
                    book.lift(0)
                    self.assertEqual(book.claims, ())
                self.assertEqual(len(book.claims), 1)
            self.assertEqual(shown(book), middle)
            with self.assertRaises(Stop):
                with trial:
                    book.undo()
                    raise Stop()
            self.assertEqual(shown(book), middle)
        self.check_same()
        with trial:
            self.book["t"] = LONE
        self.check_same()

    def test_trials_of_two_books(self):
        other = Book()
        with self.book.trial() as one, other.trial() as two:
            one["t"] = LONE
            two["t"] = DUEL
            self.assertEqual([one["t"], two["t"]], [LONE, DUEL])
        self.check_same()
        self.assertEqual(other.names, ())

    def test_tried(self):
        value = object()

        def action(book):
            self.assertIs(book, self.book)
            book.lift(2)
            return value

        self.assertIs(self.book.tried(action), value)
        self.assertIs(self.book.tried(action=action), value)
        self.assertEqual(self.book.tried(lambda book: book.tried(lambda one: one.lift(0)) or len(book.claims)), 3)
        self.check_same()

    def test_tried_with_a_function_that_raises(self):
        error = Stop()

        def action(book):
            book["t"] = DUEL
            raise error

        with self.assertRaises(Stop) as caught:
            self.book.tried(action)
        self.assertIs(caught.exception, error)
        self.check_same()

    def test_what_a_trial_tries_out(self):
        self.assertFalse(self.book.tried(lambda book: can(lambda: put(book, "s", ENDS))))
        self.assertTrue(self.book.tried(lambda book: can(lambda: put(book, "s", STREET.with_number("x", (2, 1))))))
        with self.assertRaises(Trapped):
            self.book.tried(lambda book: put(book, "s", Web.read("a ours a:0/1")))
        self.check_same()


def can(call):
    """Whether a call goes through without a claim that breaks."""
    try:
        call()
    except Broken:
        return False
    return True


class Many(unittest.TestCase):
    def test_many_changes(self):
        book = Book()
        for at in range(3000):
            book["a"] = ENDS.with_number("x", number(at))
        self.assertEqual([book.changes, book["a"].number("x")], [3000, (2999, 1)])
        with book.trial():
            for at in range(3000):
                book.undo()
            self.assertEqual(shown(book), shown(Book()))
        self.assertEqual(book.changes, 3000)

    def test_many_names_and_claims(self):
        book = Book()
        names = [first + second for first in "abcdefgh" for second in "abcdefgh"]
        for name in names[::-1]:
            book[name] = STREET
            book.claim(("ending", name))
        self.assertEqual([book.names, len(book.claims)], [tuple(names), 64])
        self.assertEqual(raised(self, lambda: book.drop("aa"), InUse).index, 63)


if __name__ == "__main__":
    unittest.main()
