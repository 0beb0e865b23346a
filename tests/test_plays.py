import unittest

from placeworths.errors import InvalidPlace, IsOver, NotAWeb, NothingToUndo, UnknownPlace
from placeworths.plays import Play
from placeworths.webs import Web
from placeworths.worths import best_arrows, worths
from tests.helpers import check_given, check_signature, fraction, number, raised, some_random
from tests.webhelpers import (
    DUEL, ENDS, NAMES, STREET, parts, ruled, searched, size_of_plans, some_webs, table_of, wrong_places, wrong_webs,
)

PAYING = Web.read(
    "a ours b:3/2 c:-1/3 y:0/1\nb theirs c:-2/1 x:0/1\nc chance b:1/2 d:1/2\nd coin x y\nx end 1/1\ny end -3/1"
)
SHOWN = ("web", "place", "paid", "is_over", "trail", "changes", "due", "advice", "log")
TIED = Web.read("a ours x:0/1 y:0/1 z:1/1\nb theirs x:0/1 y:0/1 z:-1/1\nx end 1/1\ny end 1/1\nz end 2/1")


class Stop(Exception):
    """Ends a trial."""


class Plain:
    """A play as plain rows: places gone, sums paid, and the worths of the web."""

    def __init__(self, web, place):
        self.web = web
        self.worths = dict(zip(web.places, worths(web)))
        self.places = [place]
        self.paids = [fraction((0, 1))]

    def told(self):
        """What a play shows, in the order of SHOWN."""
        place, paid = self.places[-1], self.paids[-1]
        advice = None
        if self.web.kind(place) in ("ours", "theirs"):
            advice = best_arrows(self.web, place)[0]
        return (
            self.web, place, number(paid), self.web.kind(place) == "end", tuple(self.places), len(self.places) - 1,
            number(fraction(self.worths[place]) - paid), advice, tuple("go " + to for to in self.places[1:]),
        )

    def go(self, to):
        row = [row for row in self.web.rows if row[0] == self.places[-1]][0]
        price = fraction(dict(row[2])[to]) if row[1] in ("ours", "theirs") else 0
        self.places.append(to)
        self.paids.append(self.paids[-1] + price)

    def undo(self):
        self.places.pop()
        self.paids.pop()

    def held(self):
        return (list(self.places), list(self.paids))

    def hold(self, told):
        self.places, self.paids = list(told[0]), list(told[1])


def shown(play):
    return tuple(getattr(play, name) for name in SHOWN)


class Driven(unittest.TestCase):
    """Plays led by drawn deeds, each held behind each deed against plain rows."""

    def deed(self, random, play, plain, depth):
        web, here = plain.web, plain.places[-1]
        arrows = web.arrows(here)
        drawn = random.random()
        if drawn < 0.5 and arrows:
            to = random.choice(arrows)
            self.assertIsNone(play.go(to))
            plain.go(to)
        elif drawn < 0.65:
            to = random.choice(web.places)
            if not arrows:
                raised(self, lambda: play.go(to), IsOver)
            elif to not in arrows:
                check_given(self, lambda: play.go(to), InvalidPlace, to)
        elif drawn < 0.7:
            wrong = random.choice(["zzz", "", None, 3, ("a",), "A"])
            check_given(self, lambda: play.go(wrong), UnknownPlace, wrong)
        elif drawn < 0.88:
            if len(plain.places) > 1:
                self.assertIsNone(play.undo())
                plain.undo()
            else:
                raised(self, play.undo, NothingToUndo)
        elif depth < 3:
            self.trial(random, play, plain, depth)
        self.assertEqual(shown(play), plain.told())

    def trial(self, random, play, plain, depth):
        kept = plain.held()
        way = random.randrange(4)

        def rows(inner):
            self.assertIs(inner, play)
            for _ in range(random.randint(0, 8)):
                self.deed(random, play, plain, depth + 1)
            if way % 2:
                raise Stop()
            return 7

        try:
            if way < 2:
                with play.trial() as inner:
                    rows(inner)
            else:
                self.assertEqual(play.tried(rows), 7)
            self.assertFalse(way % 2)
        except Stop:
            self.assertTrue(way % 2)
        plain.hold(kept)
        self.assertEqual(shown(play), plain.told())

    def test_long_rows_of_deeds(self):
        random = some_random(1)
        for web in [PAYING, STREET, DUEL, TIED, ENDS, *some_webs(random, 60, inner=6, ends=3)]:
            place = random.choice(web.places)
            before = web.text
            play, plain = Play(web, place), Plain(web, place)
            self.assertEqual(shown(play), plain.told())
            for _ in range(60):
                self.deed(random, play, plain, 0)
            self.assertEqual(web.text, before)
            self.assertIs(play.web, web)

    def test_two_plays_of_one_web_do_not_touch_each_other(self):
        one, two = Play(PAYING, "a"), Play(PAYING, "a")
        one.go("b")
        self.assertEqual([two.place, two.changes, one.place], ["a", 0, "b"])
        with one.trial():
            two.go("c")
            two.go("d")
        self.assertEqual([one.trail, two.trail], [("a", "b"), ("a", "c", "d")])


class Moves(unittest.TestCase):
    def test_prices_of_any_sign_at_ours_and_theirs_alone(self):
        play = Play(PAYING, "a")
        self.assertEqual([play.paid, play.place, play.trail, play.log, play.changes], [(0, 1), "a", ("a",), (), 0])
        for to, paid in (("b", (3, 2)), ("c", (-1, 2)), ("b", (-1, 2)), ("c", (-5, 2)), ("d", (-5, 2)), ("y", (-5, 2))):
            self.assertIsNone(play.go(to))
            self.assertEqual([play.place, play.paid], [to, paid])
        self.assertEqual(play.due, (-1, 2))
        self.assertEqual(play.log, ("go b", "go c", "go b", "go c", "go d", "go y"))
        for paid in ((-5, 2), (-5, 2), (-1, 2), (-1, 2), (3, 2), (0, 1)):
            play.undo()
            self.assertEqual(play.paid, paid)

    def along_advice(self, random, web, start):
        """Plays along advice, and drawn arrows elsewhere, and tells how often there was advice."""
        play = Play(web, start)
        seen = 0
        for _ in range(40):
            due, advice, kind = fraction(play.due), play.advice, web.kind(play.place)
            if play.is_over:
                self.assertEqual(due, fraction(web.number(play.place)) - fraction(play.paid))
                break
            if advice is None:
                self.assertIn(kind, ("chance", "coin"))
                play.go(random.choice(web.arrows(play.place)))
                continue
            seen += 1
            for to in web.arrows(play.place):
                play.go(to)
                self.assertFalse(fraction(play.due) > due if kind == "ours" else fraction(play.due) < due)
                play.undo()
            play.go(advice)
            self.assertEqual(fraction(play.due), due)
        return seen

    def test_what_is_due_stays_along_best_arrows_and_is_the_end_less_the_prices_at_last(self):
        random = some_random(2)
        seen = 0
        for web in some_webs(random, 100, inner=6, ends=3):
            for start in web.places:
                seen += self.along_advice(random, web, start)
        self.assertTrue(seen > 100, seen)

    def test_worths_that_are_due_against_a_search_through_all_plans(self):
        random = some_random(3)
        done = 0
        for web in some_webs(random, 60, inner=4, ends=2):
            if web.is_ending and size_of_plans(web.rows) < 200:
                low, high = searched(web.rows)
                self.assertEqual(low, high)
                for place in web.places:
                    self.assertEqual(fraction(Play(web, place).due), low[place])
                done += 1
        self.assertTrue(done > 20)

    def test_due_keeps_the_rule_in_coin_webs(self):
        values = {place: fraction(Play(DUEL, place).due) for place in DUEL.places}
        self.assertEqual(ruled(DUEL.rows, values), values)
        self.assertEqual(values, table_of(DUEL, worths(DUEL)))

    def test_advice(self):
        self.assertEqual([Play(TIED, place).advice for place in TIED.places], ["x", "x", None, None, None])
        self.assertEqual([Play(DUEL, place).advice for place in DUEL.places], [None] * 4)
        self.assertEqual([Play(PAYING, place).advice for place in PAYING.places], ["c", "x", None, None, None, None])
        later = Web.read("a ours x:1/1 y:0/1 z:-1/1\nx end 1/1\ny end 1/1\nz end 0/1")
        self.assertEqual([best_arrows(later, "a"), Play(later, "a").advice], [("y", "z"), "y"])

    def test_a_play_that_begins_at_an_end(self):
        play = Play(STREET, "x")
        self.assertEqual(shown(play), (STREET, "x", (0, 1), True, ("x",), 0, (1, 1), None, ()))
        for to in STREET.places:
            self.assertEqual(vars(raised(self, lambda: play.go(to), IsOver)), {})
        check_given(self, lambda: play.go("q"), UnknownPlace, "q")
        raised(self, play.undo, NothingToUndo)
        self.assertEqual(shown(play), (STREET, "x", (0, 1), True, ("x",), 0, (1, 1), None, ()))
        alone = Play(ENDS, "y")
        self.assertEqual([alone.due, alone.is_over], [(1, 1), True])

    def test_moves_that_cannot_be_made(self):
        play = Play(STREET, "a")
        check_given(self, lambda: play.go("y"), InvalidPlace, "y")
        check_given(self, lambda: play.go(to="a"), InvalidPlace, "a")
        for wrong in wrong_places():
            check_given(self, lambda: play.go(wrong), UnknownPlace, wrong)
        self.assertEqual(shown(play), shown(Play(STREET, "a")))
        play.go(to="b")
        play.go("y")
        for wrong in wrong_places():
            check_given(self, lambda: play.go(wrong), UnknownPlace, wrong)
        raised(self, lambda: play.go("y"), IsOver)
        self.assertEqual([play.trail, play.paid], [("a", "b", "y"), (1, 2)])

    def test_moves_taken_back_until_nothing_is_left_then_once_more(self):
        play = Play(STREET, "a")
        for to in ("b", "a", "b", "y"):
            play.go(to)
        for left in (3, 2, 1, 0):
            self.assertIsNone(play.undo())
            self.assertEqual([play.changes, len(play.trail), len(play.log)], [left, left + 1, left])
        for _ in range(2):
            self.assertEqual(vars(raised(self, play.undo, NothingToUndo)), {})
            self.assertEqual(shown(play), shown(Play(STREET, "a")))
        play.go("x")
        self.assertEqual([play.log, play.due, play.is_over], [("go x",), (1, 1), True])

    def test_long_plays(self):
        play = Play(DUEL, "a")
        for _ in range(20000):
            play.go("b")
            play.go("a")
        self.assertEqual([play.changes, len(play.trail), len(play.log)], [40000, 40001, 40000])
        for _ in range(40000):
            play.undo()
        self.assertEqual(play.trail, ("a",))

    def test_a_new_play(self):
        check_play = lambda web, place: shown(Play(web, place))
        check_play.__name__ = "Play"
        check_signature(self, check_play, [("web", STREET, wrong_webs(), NotAWeb),
                                           ("place", "a", wrong_places(), UnknownPlace)])
        self.assertEqual(shown(Play(place="b", web=STREET)), shown(Play(STREET, "b")))

    def test_properties_cannot_be_set(self):
        play = Play(STREET, "a")
        for name in SHOWN:
            with self.assertRaises(AttributeError):
                setattr(play, name, None)

    def test_plays_are_equal_only_if_they_are_one_object_and_true(self):
        play = Play(STREET, "a")
        same = play
        self.assertTrue(play == same and not play != same and play and Play(STREET, "x"))
        for other in (Play(STREET, "a"), STREET, "a", None, 0, ("a",), object()):
            self.assertTrue(play != other and not play == other and other != play)

    def test_webs_of_24_places(self):
        random = some_random(4)
        rows = [(name, "chance", tuple(zip(NAMES[at + 1:at + 9], parts(random, len(NAMES[at + 1:at + 9])))))
                for at, name in enumerate(NAMES[:23])]
        rows = [(name, kind, tuple(arrow for arrow in what if arrow[0] <= NAMES[23])) for name, kind, what in rows]
        rows = [(name, kind, tuple(zip([to for to, _ in what], parts(random, len(what))))) for name, kind, what in rows]
        web = Web((*rows, (NAMES[23], "end", (7, 3))))
        play = Play(web, NAMES[0])
        while not play.is_over:
            self.assertEqual(play.due, (7, 3))
            play.go(web.arrows(play.place)[0])
        self.assertEqual(play.trail, tuple(NAMES[:24]))


class Trials(unittest.TestCase):
    def setUp(self):
        self.play = Play(STREET, "a")
        self.play.go("b")
        self.before = shown(self.play)

    def check_same(self):
        self.assertEqual(shown(self.play), self.before)

    def test_a_trial_shows_its_moves_and_ends_as_it_began(self):
        with self.play.trial() as play:
            self.assertIs(play, self.play)
            self.check_same()
            play.go("a")
            play.go("x")
            self.assertEqual([play.trail, play.changes], [("a", "b", "a", "x"), 3])
        self.check_same()

    def test_moves_made_before_are_taken_back_within(self):
        with self.play.trial():
            self.play.undo()
            raised(self, self.play.undo, NothingToUndo)
            self.play.go("x")
            self.assertEqual([self.play.trail, self.play.changes], [("a", "x"), 1])
        self.check_same()
        self.play.undo()
        self.assertEqual(self.play.trail, ("a",))

    def test_a_trial_that_ends_with_an_error(self):
        for error in (Stop, KeyError, IsOver, KeyboardInterrupt):
            with self.assertRaises(error):
                with self.play.trial() as play:
                    play.go("y")
                    raise error()
            self.check_same()
        with self.assertRaises(InvalidPlace) as caught:
            with self.play.trial() as play:
                play.go("a")
                play.go("y")
        self.assertEqual(caught.exception.given, "y")
        self.check_same()

    def test_a_trial_left_by_return_and_by_break(self):
        def left():
            with self.play.trial() as play:
                play.go("y")
                return play.place
        self.assertEqual(left(), "y")
        self.check_same()
        for _ in range(3):
            with self.play.trial():
                self.play.go("y")
                break
        self.check_same()
        for _ in range(3):
            with self.play.trial():
                self.play.go("y")
                continue
        self.check_same()

    def test_trials_within_trials(self):
        with self.play.trial():
            self.play.go("a")
            middle = shown(self.play)
            with self.play.trial():
                self.play.undo()
                self.play.undo()
                self.play.go("x")
            self.assertEqual(shown(self.play), middle)
            with self.assertRaises(Stop):
                with self.play.trial():
                    self.play.go("b")
                    raise Stop()
            self.assertEqual(shown(self.play), middle)
            self.play.go("x")
        self.check_same()

    def test_the_same_trial_within_itself_and_once_more_behind(self):
        trial = self.play.trial()
        with trial as play:
            self.assertIs(play, self.play)
            play.go("a")
            middle = shown(play)
            with trial as inner:
                self.assertIs(inner, play)
                inner.go("b")
                deep = shown(play)
                with trial:
                    play.go("y")
                self.assertEqual(shown(play), deep)
            self.assertEqual(shown(play), middle)
            with self.play.trial(), trial, trial:
                play.undo()
                play.undo()
            self.assertEqual(shown(play), middle)
        self.check_same()
        with trial:
            self.play.go("y")
        self.check_same()
        self.play.go("a")
        later = shown(self.play)
        with trial:
            self.play.go("x")
        self.assertEqual(shown(self.play), later)

    def test_a_trial_begins_with_its_rows(self):
        trial = self.play.trial()
        self.play.go("a")
        later = shown(self.play)
        with trial:
            self.play.go("x")
        self.assertEqual(shown(self.play), later)

    def test_trials_of_two_plays(self):
        other = Play(DUEL, "a")
        with self.play.trial() as one, other.trial() as two:
            one.go("y")
            two.go("b")
            two.go("y")
            self.assertEqual([one.place, two.place], ["y", "y"])
        self.check_same()
        self.assertEqual(other.trail, ("a",))

    def test_trials_are_true(self):
        self.assertTrue(self.play.trial())

    def test_tried_returns_what_the_function_returns(self):
        given = []
        value = object()

        def action(play):
            given.append(play)
            play.go("y")
            return value

        self.assertIs(self.play.tried(action), value)
        self.assertIs(self.play.tried(action=action), value)
        self.assertEqual(given, [self.play, self.play])
        self.check_same()
        self.assertIsNone(self.play.tried(lambda play: None))
        self.assertEqual(self.play.tried(lambda play: (play.go("y"), play.due)), (None, (5, 2)))
        self.check_same()

    def test_tried_with_a_function_that_raises(self):
        error = Stop("told")

        def action(play):
            play.undo()
            play.go("x")
            raise error

        with self.assertRaises(Stop) as caught:
            self.play.tried(action)
        self.assertIs(caught.exception, error)
        self.check_same()

    def test_tried_within_tried(self):
        def outer(play):
            play.go("a")
            inner = play.tried(lambda one: one.tried(lambda two: two.go("x") or two.trail))
            return inner, play.trail

        self.assertEqual(self.play.tried(outer), (("a", "b", "a", "x"), ("a", "b", "a")))
        self.check_same()


if __name__ == "__main__":
    unittest.main()
