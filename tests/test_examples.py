"""The examples of the document, as they stand there: one after the other, with the names of those ahead."""

import unittest

EXAMPLES = (
    ("draws.py", r"""
>>> from placeworths.draws import capped, chance_above, chance_of, draw_in, draw_text, excess, greatest_of, mean, mixed, moved, scaled, summed
>>> coin, sure = (((0, 1), (1, 2)), ((4, 1), (1, 2))), (((2, 1), (1, 1)),)
>>> [mean(coin), capped(coin, (1, 1)), excess(coin, (1, 1)), chance_above(coin, (0, 1)), chance_of(coin, (4, 1)), chance_of(coin, (1, 1))]
[(2, 1), (1, 2), (3, 2), (1, 2), (1, 2), (0, 1)]
>>> [summed(coin, sure), greatest_of((coin, coin)), mixed((coin, sure), ((1, 3), (2, 3))), moved(sure, (-1, 2)), scaled(coin, (-1, 4)), scaled(coin, (0, 1))]
[(((2, 1), (1, 2)), ((6, 1), (1, 2))), (((0, 1), (1, 4)), ((4, 1), (3, 4))), (((0, 1), (1, 6)), ((2, 1), (2, 3)), ((4, 1), (1, 6))), (((3, 2), (1, 1)),), (((-1, 1), (1, 2)), ((0, 1), (1, 2))), (((0, 1), (1, 1)),)]
>>> [draw_text(coin), draw_in("2/1:1/1") == sure]
['0/1:1/2 4/1:1/2', True]
"""),
    ("orders.py", r"""
>>> from placeworths.orders import bold, bold_at, cautious, cautious_at, less_at, lift, never_less, sinking, spread
>>> [never_less(coin, sure), cautious(coin, sure), bold(coin, sure), cautious(sure, coin), bold(sure, coin), less_at(coin, sure), cautious_at(coin, sure), bold_at(sure, coin)]
[False, False, True, True, False, (0, 1), (2, 1), (2, 1)]
>>> [spread(coin, sure), sinking(sure, coin), lift(coin, sure), lift(moved(coin, (1, 1)), coin)]
[(((2, 1), (0, 1), (1, 2)), ((2, 1), (4, 1), (1, 2))), (((2, 1), (0, 1), (1, 2)), ((2, 1), (4, 1), (1, 2))), None, (((0, 1), (1, 1), (1, 2)), ((4, 1), (5, 1), (1, 2)))]
"""),
    ("stops.py", r"""
>>> from placeworths.stops import bar_worth, bars, best_orders, half_bar, picks, prophet, recall_worth, should_take, worths_from
>>> third = (((0, 1), (2, 3)), ((9, 1), (1, 3)))
>>> [worths_from((coin, third), (0, 1)), bars((coin, third), (0, 1)), should_take((coin, third), (0, 1), 0, (3, 1)), bar_worth((coin, third), (0, 1), (4, 1)), prophet((coin, third), (0, 1))]
[((7, 2), (3, 1), (0, 1)), ((3, 1), (0, 1)), True, (7, 2), (13, 3)]
>>> [half_bar((sure,)), half_bar((coin, third)), best_orders((coin, third), (0, 1)), recall_worth((coin, third), (0, 1), (1, 1)), picks((coin, third), 2), picks((coin, coin), 1)]
[(1, 1), (30, 11), ((13, 3), ((1, 0),)), (7, 3), (5, 1), (3, 1)]
"""),
    ("looks.py", r"""
>>> from placeworths.looks import best_order, better_box, box_gain, company_worth, floor_against, opened_chance, paid_mean, strike, worth_in
>>> wide, near = ((((0, 1), (1, 2)), ((10, 1), (1, 2))), (1, 1)), ((((4, 1), (1, 2)), ((8, 1), (1, 2))), (1, 1))
>>> [strike(wide), strike(near), company_worth((wide, near), (0, 1)), best_order((near, wide)), worth_in((wide, near), (0, 1), (0, 1)), company_worth((wide,), (9, 1)), company_worth((), (2, 1))]
[(8, 1), (6, 1), (13, 2), (1, 0), (13, 2), (9, 1), (2, 1)]
>>> [opened_chance((wide, near), (0, 1), 1), paid_mean((wide, near), (0, 1)), box_gain((wide, near), (0, 1), 1), better_box(wide, near), floor_against(near, near), strike(((((5, 1), (1, 1)),), (0, 1)))]
[(1, 2), (3, 2), (5, 2), False, None, (5, 1)]
"""),
    ("webs.py", r"""
>>> from placeworths.webs import Web, greatest_trap
>>> street = Web.read("a ours b:1/2 x:0/1\nb chance a:1/2 y:1/2\nx end 1/1\ny end 3/1")
>>> duel = Web((("a", "coin", ("b", "x")), ("b", "coin", ("a", "y")), ("x", "end", (0, 1)), ("y", "end", (1, 1))))
>>> [street.rows[0], street.places, street.ends, street.is_ending, street.is_coins, duel.is_ending, duel.is_coins, duel.text]
[('a', 'ours', (('b', (1, 2)), ('x', (0, 1)))), ('a', 'b', 'x', 'y'), ('x', 'y'), True, False, False, True, 'a coin b x\nb coin a y\nx end 0/1\ny end 1/1']
>>> [greatest_trap((("a", "ours", (("a", (0, 1)), ("x", (0, 1)))), ("x", "end", (0, 1)))), greatest_trap(duel.rows), greatest_trap(street.rows), street.arrows("b"), street.number("y"), street.with_number("x", (5, 2)).number("x")]
[('a',), ('a', 'b'), (), ('a', 'y'), (3, 1), (5, 2)]
"""),
    ("worths.py", r"""
>>> from placeworths.worths import best_arrows, held, plan, turned, within, worth, worths
>>> pick = Web((("a", "ours", (("b", (0, 1)), ("z", (1, 1)))), ("b", "chance", (("y", (1, 2)), ("z", (1, 2)))), ("y", "end", (0, 1)), ("z", "end", (4, 1))))
>>> [worths(pick), worth(pick, "a"), best_arrows(pick, "a"), best_arrows(pick, "b"), plan(pick, "ours"), plan(pick, "theirs"), held(pick, "ours", (("a", "b"),)), within(pick, 1, (0, 1)), within(pick, 0, (1, 2))]
[((3, 1), (2, 1), (0, 1), (4, 1)), (3, 1), ('z',), (), (('a', 'z'),), (), ((2, 1), (2, 1), (0, 1), (4, 1)), ((3, 1), (2, 1), (0, 1), (4, 1)), ((1, 2), (1, 2), (0, 1), (4, 1))]
>>> flip = Web((("a", "coin", ("b", "z")), ("b", "coin", ("a", "y")), ("y", "end", (0, 1)), ("z", "end", (1, 1))))
>>> [worths(flip), best_arrows(flip, "a"), worths(turned(pick)), worths(turned(flip))]
[((2, 3), (1, 3), (0, 1), (1, 1)), (('z',), ('b',)), ((-3, 1), (-2, 1), (0, 1), (-4, 1)), ((-2, 3), (-1, 3), (0, 1), (-1, 1))]
"""),
    ("chains.py", r"""
>>> from placeworths.chains import ends_from, keeps, met_chance, steps_from, visits
>>> drift = Web((("a", "chance", (("a", (1, 3)), ("b", (1, 3)), ("y", (1, 3)))), ("b", "chance", (("a", (1, 2)), ("z", (1, 2)))), ("y", "end", (0, 1)), ("z", "end", (1, 1))))
>>> [ends_from(drift, "a"), ends_from(drift, "z"), steps_from(drift, "a"), steps_from(drift, "b"), visits(drift, "a"), met_chance(drift, "a", "b"), met_chance(drift, "b", "a"), worths(drift), keeps(drift, worths(drift)), keeps(drift, ((1, 1), (1, 1), (1, 1), (1, 1)))]
[(('y', (2, 3)), ('z', (1, 3))), (('z', (1, 1)),), (8, 3), (7, 3), (('a', (2, 1)), ('b', (2, 3))), (1, 2), (1, 2), ((1, 3), (2, 3), (0, 1), (1, 1)), True, True]
"""),
    ("bids.py", r"""
>>> from placeworths.bids import is_safe, need, needs, safe_range, step, winner
>>> [needs(duel), step(duel, "a"), winner(duel, "b", (1, 2)), winner(duel, "a", (2, 3)), safe_range(duel, "b", (1, 2), "first", "y")]
[((2, 3), (1, 3), (1, 1), (0, 1)), (1, 3), 'first', None, ((1, 6), (1, 2))]
>>> [is_safe(duel, "b", (1, 2), "first", "y", (1, 3)), is_safe(duel, "b", (1, 2), "first", "y", (1, 8)), is_safe(duel, "a", (1, 2), "second", "x", (1, 3)), safe_range(duel, "a", (1, 2), "second", "x")]
[True, False, True, ((1, 6), (1, 2))]
"""),
    ("lines.py", r"""
>>> from placeworths.lines import at, even_at, line
>>> [line(pick, "a", "y"), line(pick, "b", "y"), line(pick, "a", "z"), line(turned(pick), "a", "z"), at(line(pick, "a", "y"), (3, 1)), at(line(pick, "a", "y"), (-9, 1))]
[((None, (0, 1), (3, 1)), ((2, 1), (1, 2), (2, 1))), ((None, (1, 2), (2, 1)),), ((None, (1, 2), (0, 1)), ((2, 1), (1, 1), (-1, 1))), ((None, (1, 1), (1, 1)), ((-2, 1), (1, 2), (0, 1))), (7, 2), (3, 1)]
>>> [even_at(pick, "a", "b", "y"), even_at(pick, "b", "y", "y"), even_at(pick, "y", "z", "y")]
[None, ((4, 1),), ((4, 1),)]
"""),
    ("loose.py", r"""
>>> from placeworths.loose import Loose, greatest, greatest_member, is_member, least, least_member, sure_arrows
>>> span = Loose((("a", "chance", (("y", (1, 4), (1, 2)), ("z", (1, 2), (3, 4)))), ("o", "ours", (("a", (0, 1)), ("y", (0, 1)))), ("y", "end", ((0, 1), (1, 1))), ("z", "end", ((2, 1), (3, 1)))))
>>> [least(span), greatest(span), sure_arrows(span, "o"), sure_arrows(span, "a"), is_member(span, least_member(span)), worths(greatest_member(span)) == greatest(span)]
[((1, 1), (1, 1), (0, 1), (2, 1)), ((5, 2), (5, 2), (1, 1), (3, 1)), ('a',), (), True, True]
"""),
    ("folds.py", r"""
>>> from placeworths.folds import coarsest, folded, grafted, is_fold, struck
>>> twin = Web((("a", "chance", (("b", (1, 2)), ("c", (1, 2)))), ("b", "ours", (("y", (0, 1)), ("z", (1, 1)))), ("c", "ours", (("y", (0, 1)), ("z", (1, 1)))), ("y", "end", (0, 1)), ("z", "end", (3, 1))))
>>> [coarsest(twin), folded(twin).rows[0], worths(folded(twin)), is_fold(twin, (("a",), ("b",), ("c",), ("y",), ("z",))), is_fold(twin, (("a",), ("b", "c"), ("y", "z"))), coarsest(drift)]
[(('a',), ('b', 'c'), ('y',), ('z',)), ('a', 'chance', (('b', (1, 1)),)), ((2, 1), (2, 1), (0, 1), (3, 1)), True, False, (('a',), ('b',), ('y',), ('z',))]
>>> [struck(drift, "b").rows[0], struck(drift, "a").rows[0], worth(struck(drift, "a"), "b"), worths(grafted(pick, "y", Web((("m", "ours", (("n", (0, 1)),)), ("n", "end", (5, 1)))), "m"))]
[('a', 'chance', (('a', (1, 2)), ('y', (1, 3)), ('z', (1, 6)))), ('b', 'chance', (('b', (1, 4)), ('y', (1, 4)), ('z', (1, 2)))), (2, 3), ((9, 2), (9, 2), (5, 1), (5, 1), (4, 1))]
"""),
    ("unknown.py", r"""
>>> from placeworths.unknown import Unknown, asks, filled, ranges, sure_best, sure_order
>>> fork = Web((("a", "ours", (("x", (0, 1)), ("y", (0, 1)))), ("x", "end", (0, 1)), ("y", "end", (3, 1))))
>>> lost = Unknown(fork, (("x", ((0, 1), (2, 1), (5, 1))),))
>>> [len(lost), filled(lost, ((5, 1),)).number("x"), ranges(lost), sure_best(lost), sure_order(lost), asks(lost, "a")]
[3, (5, 1), (('a', (3, 1), (5, 1)), ('x', (0, 1), (5, 1)), ('y', (3, 1), (3, 1))), (('a', ()),), (('a', 'x'), ('a', 'y')), 1]
"""),
    ("made.py", r"""
>>> from placeworths.made import company_web, row_web
>>> from placeworths.worths import worth
>>> [worth(row_web((coin, third), (0, 1)), "a"), worth(company_web(((coin, (1, 1)),), (0, 1)), "a")]
[(7, 2), (1, 1)]
"""),
    ("plays.py", r"""
>>> from placeworths.plays import Play
>>> play = Play(street, "a")
>>> [play.advice, play.due, play.go("b"), play.paid, play.due, play.go("a"), play.go("b"), play.go("y"), play.is_over, play.due, play.trail, play.changes, play.undo(), play.place]
['b', (2, 1), None, (1, 2), (2, 1), None, None, None, True, (2, 1), ('a', 'b', 'a', 'b', 'y'), 4, None, 'b']
"""),
    ("logs.py", r"""
>>> from placeworths.logs import best_play, played
>>> [played(street, "a", ("go b", "go y")).trail, best_play(street, "a", (0, 0, 1)).trail, best_play(street, "a", ()).trail, played(street, "a", ()).log, best_play(duel, "a", (0, 1)).place]
[('a', 'b', 'y'), ('a', 'b', 'a', 'b', 'a', 'b', 'y'), ('a', 'b'), (), 'y']
>>> played(street, "a", ("go b", "go x"))
raises InvalidLog(index=1)
"""),
    ("books.py", r"""
>>> from placeworths.books import Book
>>> book = Book()
>>> done = book.do_all(("set", "s", street), ("claim", ("between", "s", "a", (2, 1), (2, 1))), ("claim", ("best", "s", "a", "b")), ("claim", ("above", "s", "b", "a")))
>>> [done, book.names, len(book.claims), book.changes, book.undo(), book.claims[-1][0]]
[4, ('s',), 3, 4, None, 'best']
>>> book.do_all(("set", "s", street.with_number("y", (1, 1))))
raises Broken(index=0)
"""),
    ("certificates.py", r"""
>>> from placeworths.certificates import certify_at_least, certify_at_most, certify_strike, certify_worth
>>> from placeworths.checker import accepts
>>> papers = [certify_worth(street, "a"), certify_at_least(street, "b", (2, 1)), certify_strike(wide), certify_worth(duel, "a")]
>>> [papers[0][0][3], papers[0][1], papers[1][0][0], papers[2][0][2], papers[3][1], certify_at_most(street, "a", (1, 1))]
[(2, 1), ((2, 1), (5, 2), (1, 1), (3, 1)), 'at least', (8, 1), ((1, 3), (2, 3), (0, 1), (1, 1)), None]
>>> [accepts(papers[0][0], papers[0][1]), accepts(papers[1][0], papers[1][1]), accepts(papers[2][0], ()), accepts(("worth", street.rows, "a", (3, 1)), ((3, 1), (3, 1), (1, 1), (3, 1))), accepts(("trap", duel.rows, ("a", "b")), ())]
[True, True, True, False, True]
"""),
    ("console.py", r"""
>>> from placeworths.console import Console
>>> console = Console()
>>> [console.say("s = a ours b:1/2 x:0/1 / b chance a:1/2 y:1/2 / x end 1/1 / y end 3/1"), console.say("s worth a"), console.say("s worths"), console.say("s advice a"), console.say("s between a 2/1 5/2"), console.say("undo"), console.say("l = a coin b x / b coin a y / x end 0/1 / y end 1/1"), console.say("l need b"), console.say("l wins b 1/2")]
['ending', '2/1', '2/1 5/2 1/1 3/1', 'b', 'ok', 'ok', 'coins', '1/3', 'ok']
"""),
)


def steps(text):
    """The steps of an example: pairs of what is done and the line that is told, None where nothing is."""
    told = []
    for line in text.strip().split("\n"):
        if line.startswith(">>> "):
            told.append((line[4:], None))
        else:
            told[-1] = (told[-1][0], line)
    return told


class Examples(unittest.TestCase):
    def check_step(self, done, line, names):
        """Does one step and checks the line that it tells, a value or what it raises."""
        if line is None:
            exec(done, names)
        elif line.startswith("raises "):
            with self.assertRaises(Exception) as caught:
                eval(done, names)
            found = caught.exception
            told = ", ".join(f"{name}={value!r}" for name, value in vars(found).items())
            self.assertEqual(f"raises {type(found).__name__}({told})", line)
        else:
            self.assertEqual(repr(eval(done, names)), line)

    def test_each_example_tells_what_the_document_shows(self):
        names = {}
        for section, text in EXAMPLES:
            for done, line in steps(text):
                with self.subTest(section=section, done=done):
                    self.check_step(done, line, names)

    def test_no_section_is_without_steps(self):
        for section, text in EXAMPLES:
            self.assertTrue([line for _, line in steps(text) if line is not None], section)


if __name__ == "__main__":
    unittest.main()
