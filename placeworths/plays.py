"""Plays: going from place to place in a web, live, with moves that can be taken back."""

from placeworths.boards import rows_worths
from placeworths.checks import check_place
from placeworths.errors import IsOver, NothingToUndo
from placeworths.exact import ZERO, minus, plus
from placeworths.moments import Moment, Trial
from placeworths.webchecks import check_arrow, check_web
from placeworths.webrows import row_of
from placeworths.worths import first_best


class Play:
    """A play of a web; the state of each moment is the pair of the place and of what was paid until then."""

    def __init__(self, web, place):
        check_web(web)
        check_place(place, web.places)
        self._web = web
        self._worths = rows_worths(web.rows)
        self._advices = {row[0]: first_best(row, self._worths) for row in web.rows}
        self._now = Moment((place, ZERO), None)

    @property
    def web(self):
        """The web."""
        return self._web

    @property
    def place(self):
        """The place at which the play is."""
        return self._now.state[0]

    @property
    def paid(self):
        """The sum of the prices of the arrows gone."""
        return self._now.state[1]

    @property
    def is_over(self):
        """Whether the play is at an end."""
        return self._now.state[0] in self._web.ends

    @property
    def trail(self):
        """The tuple of the places from the first one on."""
        places = []
        moment = self._now
        while moment is not None:
            places.append(moment.state[0])
            moment = moment.before
        return tuple(places[::-1])

    @property
    def changes(self):
        """How many moves can be taken back."""
        return self._now.depth

    @property
    def due(self):
        """The worth of the place less what was paid."""
        place, paid = self._now.state
        return minus(self._worths[place], paid)

    @property
    def advice(self):
        """Where the first best arrow of one of ours, of theirs, leads; None elsewhere."""
        return self._advices[self._now.state[0]]

    @property
    def log(self):
        """The tuple of the lines of all moves that were not taken back."""
        return tuple([f"go {place}" for place in self.trail[1:]])

    def go(self, to):
        """Goes along an arrow to this place."""
        check_place(to, self._web.places)
        if self.is_over:
            raise IsOver()
        place, paid = self._now.state
        check_arrow(self._web, place, to)
        cost = arrow_price(row_of(self._web.rows, place), to)
        self._now = Moment((to, plus(paid, cost)), self._now)

    def undo(self):
        """Takes back the last move that has not been taken back."""
        if self._now.before is None:
            raise NothingToUndo()
        self._now = self._now.before

    def trial(self):
        """For a `with` statement, at the end of which the play is as it was at its beginning."""
        return Trial(self)

    def tried(self, action):
        """What the function returns for the play, within a trial."""
        with self.trial() as play:
            return action(play)


def arrow_price(row, to):
    """What we pay for the arrow of this row to a place; nothing where chance or a coin moves."""
    return dict(row[2])[to] if row[1] in ("ours", "theirs") else ZERO
