import unittest

from placeworths.errors import InvalidIndex, InvalidLog, NotAWeb, UnknownPlace
from placeworths.logs import best_play, played
from placeworths.plays import Play
from placeworths.webs import Web
from placeworths.worths import best_arrows
from tests.helpers import Nasty, check_given, check_signature, odd_values, raised, some_random
from tests.test_plays import PAYING, SHOWN, shown
from tests.webhelpers import DUEL, ENDS, STREET, some_webs, wrong_places, wrong_webs

FREE = Web.read("a chance b:1/2 c:1/2\nb ours x:0/1 y:1/1\nc coin a x y\nx end 0/1\ny end 1/1")


def by_hand(web, place, turns):
    """What a best play comes to, by the words of the document: the places gone, or the first wrong turn in a list."""
    places = [place]
    left = list(turns)
    while web.kind(places[-1]) != "end":
        kind, arrows = web.kind(places[-1]), web.arrows(places[-1])
        if kind in ("ours", "theirs"):
            places.append(best_arrows(web, places[-1])[0])
        elif not left:
            break
        else:
            turn = left.pop(0)
            if type(turn) is not int or not 0 <= turn < len(arrows):
                return [turn]
            places.append(arrows[turn])
    return tuple(places)


class Played(unittest.TestCase):
    def check_log(self, web, place, lines, index):
        found = raised(self, lambda: played(web, place, lines), InvalidLog)
        self.assertEqual(vars(found), {"index": index})
        self.assertIs(type(found.index), type(index))

    def test_logs_of_drawn_plays_are_played_again(self):
        random = some_random(1)
        for web in [PAYING, *some_webs(random, 80, inner=6, ends=3)]:
            place = random.choice(web.places)
            play = Play(web, place)
            while not play.is_over and play.changes < 30:
                play.go(random.choice(web.arrows(play.place)))
                if random.random() < 0.2:
                    play.undo()
            again = played(web, place, play.log)
            self.assertIs(type(again), Play)
            self.assertEqual(shown(again), shown(play))
            self.assertIs(again.web, web)
            self.assertTrue(again != play)
            for count in range(len(play.log) + 1):
                self.assertEqual(played(web, place, play.log[:count]).trail, play.trail[:count + 1])

    def test_moves_can_be_taken_back(self):
        play = played(PAYING, "a", ("go b", "go c"))
        self.assertEqual([play.paid, play.changes], [(-1, 2), 2])
        play.undo()
        play.undo()
        self.assertEqual(shown(play), shown(Play(PAYING, "a")))

    def test_no_lines(self):
        for place in STREET.places:
            self.assertEqual(shown(played(STREET, place, ())), shown(Play(STREET, place)))

    def test_lines_that_are_none(self):
        wrongs = [value for value in odd_values()] + [
            "go", "go ", "go  b", " go b", "go b ", "Go b", "GO b", "go\tb", "go B", "go b\n", "go b x", "gob", "b",
            "go a b", "go bb", "go b:1/2", "goo b", "go 'b'", "go b go y", b"go b", ("go b",), ["go b"], ("go", "b"),
            "go c", "go a", "go y", "go zzz", "go zzzz", "go 1", "go -", Nasty(),
        ]
        for wrong in wrongs:
            with self.subTest(wrong=str(type(wrong))):
                self.check_log(STREET, "a", (wrong,), 0)
                self.check_log(STREET, "a", (wrong, "go b"), 0)
                self.check_log(STREET, "a", ("go b", "go a", wrong), 2)
                self.check_log(STREET, "a", ("go b", "go a", wrong, None), 2)

    def test_moves_that_cannot_be_made(self):
        self.check_log(STREET, "a", ("go b", "go x"), 1)
        self.check_log(STREET, "a", ("go y",), 0)
        self.check_log(STREET, "a", ("go a",), 0)
        self.check_log(STREET, "b", ("go b",), 0)
        self.check_log(STREET, "a", ("go x", "go x"), 1)
        self.check_log(STREET, "x", ("go x",), 0)
        self.check_log(STREET, "x", ("go a",), 0)
        self.check_log(ENDS, "x", ("go y",), 0)
        self.check_log(DUEL, "a", ("go b", "go a", "go b", "go y", "go y"), 4)

    def test_lines_behind_the_first_wrong_one_are_not_looked_at(self):
        self.check_log(STREET, "a", ("go x", None, "go b"), 1)
        self.check_log(STREET, "a", (None, "go x", "go y"), 0)

    def test_what_is_no_tuple(self):
        for wrong in odd_values() + [["go b"], "go b", {"go b": 1}, None, Nasty(), iter(("go b",))]:
            if type(wrong) is not tuple:
                self.check_log(STREET, "a", wrong, None)

    def test_errors_in_their_order(self):
        for wrong in wrong_webs():
            check_given(self, lambda: played(wrong, "q", None), NotAWeb, wrong)
        for wrong in wrong_places():
            check_given(self, lambda: played(STREET, wrong, None), UnknownPlace, wrong)
            check_given(self, lambda: played(lines=("x",), place=wrong, web=STREET), UnknownPlace, wrong)
        self.assertEqual(played(lines=("go b",), place="a", web=STREET).trail, ("a", "b"))

    def test_a_long_log(self):
        lines = ("go b", "go a") * 5000
        self.assertEqual(played(DUEL, "a", lines).log, lines)
        self.check_log(DUEL, "a", lines + ("go y",), 10000)


class BestPlay(unittest.TestCase):
    def test_drawn_turns_against_plays_by_hand(self):
        random = some_random(2)
        seen = {True: 0, False: 0}
        for web in [STREET, DUEL, FREE, *some_webs(random, 120, inner=6, ends=3)]:
            for _ in range(6):
                place = random.choice(web.places)
                turns = tuple(random.choice((0, 0, 0, 1, 1, 2, -1, 3, True, None)) if random.random() < 0.3
                              else random.choice((0, 0, 1)) for _ in range(random.randint(0, 12)))
                expected = by_hand(web, place, turns)
                if isinstance(expected, list):
                    check_given(self, lambda: best_play(web, place, turns), InvalidIndex, expected[0])
                    seen[False] += 1
                else:
                    play = best_play(web, place, turns)
                    self.assertEqual(shown(play), shown(played(web, place, tuple(f"go {to}" for to in expected[1:]))))
                    self.assertEqual(play.trail, expected)
                    seen[True] += 1
        self.assertTrue(min(seen.values()) > 50, seen)

    def test_turns_used_up(self):
        for turns, trail in (
            ((), ("a", "b")), ((0,), ("a", "b", "a", "b")), ((0, 0), ("a", "b", "a", "b", "a", "b")),
            ((1,), ("a", "b", "y")), ((0, 1), ("a", "b", "a", "b", "y")),
        ):
            play = best_play(STREET, "a", turns)
            self.assertEqual([play.trail, play.is_over], [trail, trail[-1] == "y"])

    def test_more_turns_than_are_wanted(self):
        for more in ((0,), (7,), (None, "x"), (True,), (Nasty(),), (1, 1, 1)):
            self.assertEqual(best_play(STREET, "a", (1, *more)).trail, ("a", "b", "y"))

    def test_no_turns_wanted(self):
        web = Web.read("a ours b:0/1 x:0/1\nb theirs x:1/1 y:-1/1\nx end 1/1\ny end 3/1")
        for turns in ((), (0,), (None,), (Nasty(), True)):
            self.assertEqual(best_play(web, "a", turns).trail, ("a", "x"))
            self.assertEqual(best_play(web, "b", turns).trail, ("b", "x"))
            self.assertEqual(best_play(web, "y", turns).trail, ("y",))

    def test_the_first_best_arrow_is_gone(self):
        web = Web.read("a ours b:0/1 x:0/1 y:0/1\nb theirs x:0/1 y:0/1\nx end 1/1\ny end 1/1")
        self.assertEqual(best_play(web, "a", ()).trail, ("a", "b", "x"))

    def test_indexes_that_are_none(self):
        wrongs = [value for value in odd_values() if type(value) is not int or value > 1] + [-1, -2, 2, 10 ** 30, True]
        for wrong in wrongs:
            check_given(self, lambda: best_play(STREET, "a", (wrong,)), InvalidIndex, wrong)
            check_given(self, lambda: best_play(STREET, "a", (0, 0, wrong, wrong, 1)), InvalidIndex, wrong)
            check_given(self, lambda: best_play(DUEL, "b", (0, wrong)), InvalidIndex, wrong)
        self.assertEqual(best_play(FREE, "c", (2,)).trail, ("c", "y"))
        check_given(self, lambda: best_play(FREE, "c", (3,)), InvalidIndex, 3)
        check_given(self, lambda: best_play(FREE, "c", (0, 2)), InvalidIndex, 2)

    def test_what_is_no_tuple_ahead_of_all_moves(self):
        for wrong in odd_values() + [[0], [0, 1], 0, None, Nasty(), range(2), "0", {0: 1}]:
            if type(wrong) is not tuple:
                for place in STREET.places:
                    check_given(self, lambda: best_play(STREET, place, wrong), InvalidIndex, wrong)

    def test_errors_in_their_order(self):
        for wrong in wrong_webs():
            check_given(self, lambda: best_play(wrong, "q", None), NotAWeb, wrong)
        for wrong in wrong_places():
            check_given(self, lambda: best_play(STREET, wrong, None), UnknownPlace, wrong)
            check_given(self, lambda: best_play(turns=[0], place=wrong, web=STREET), UnknownPlace, wrong)
        self.assertEqual(best_play(turns=(1,), place="b", web=STREET).trail, ("b", "y"))

    def test_what_is_told_is_a_play(self):
        play = best_play(PAYING, "a", (0,))
        self.assertIs(type(play), Play)
        self.assertIs(play.web, PAYING)
        self.assertTrue(play != best_play(PAYING, "a", (0,)))
        self.assertEqual([getattr(play, name) for name in SHOWN], list(shown(best_play(PAYING, "a", (0,)))))
        while play.changes:
            play.undo()
        self.assertEqual(play.trail, ("a",))

    def test_signatures(self):
        check_signature(self, lambda web, place: best_play(web, place, (1,)).trail,
                        [("web", STREET, wrong_webs(), NotAWeb), ("place", "a", wrong_places(), UnknownPlace)])

    def test_many_turns(self):
        self.assertEqual(best_play(DUEL, "a", (0,) * 10000).changes, 10000)


if __name__ == "__main__":
    unittest.main()
