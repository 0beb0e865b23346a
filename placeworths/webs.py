"""Webs: rows of places that tell who moves where, without traps or of coins."""

from placeworths.checks import check_number, check_place
from placeworths.errors import InvalidText, InvalidWeb, NotAnEnd, Trapped
from placeworths.webrows import are_coin_rows, are_rows, rows_in, rows_text, targets, trap_of


class Web:
    """Rows that are ending or coin rows."""

    def __init__(self, rows):
        if not are_rows(rows):
            raise InvalidWeb(rows)
        trap = trap_of(rows)
        coins = are_coin_rows(rows)
        if trap and not coins:
            raise Trapped(trap)
        self._rows = rows
        self._told = {row[0]: row for row in rows}
        self._places = tuple([row[0] for row in rows])
        self._ends = tuple([row[0] for row in rows if row[1] == "end"])
        self._ending = not trap
        self._coins = coins and len(self._ends) < len(rows)

    @classmethod
    def read(cls, text):
        """The web with this text."""
        rows = rows_in(text) if isinstance(text, str) else None
        if rows is None:
            raise InvalidText(text)
        return cls(rows)

    @property
    def rows(self):
        """The rows of the web."""
        return self._rows

    @property
    def places(self):
        """The ascending tuple of all places."""
        return self._places

    @property
    def ends(self):
        """The ascending tuple of all ends."""
        return self._ends

    @property
    def text(self):
        """The text of the rows."""
        return rows_text(self._rows)

    @property
    def is_ending(self):
        """Whether the rows are ending."""
        return self._ending

    @property
    def is_coins(self):
        """Whether the rows are coin rows with an inner place."""
        return self._coins

    def __eq__(self, other):
        return isinstance(other, Web) and self._rows == other._rows

    def __str__(self):
        return f"{rows_text(self._rows)}"

    def kind(self, place):
        """The kind of a place."""
        check_place(place, self._told)
        return self._told[place][1]

    def arrows(self, place):
        """The ascending tuple of the places to which the arrows of a place lead."""
        check_place(place, self._told)
        return targets(self._told[place])

    def number(self, place):
        """The number of an end, None for other places."""
        check_place(place, self._told)
        _, kind, what = self._told[place]
        return what if kind == "end" else None

    def with_number(self, place, number):
        """The web in which an end has another number."""
        check_place(place, self._told)
        check_number(number)
        if self._told[place][1] != "end":
            raise NotAnEnd()
        return Web(tuple([(place, "end", number) if row[0] == place else row for row in self._rows]))


def greatest_trap(rows):
    """The greatest trap of rows, an ascending tuple of places, () if there is none."""
    if not are_rows(rows):
        raise InvalidWeb(rows)
    return trap_of(rows)
