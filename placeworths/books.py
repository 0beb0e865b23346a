"""Books: webs under names, with claims that hold after each change."""

from placeworths.checks import check_index
from placeworths.claims import check_claim, check_name, first_broken
from placeworths.errors import Broken, InUse, InvalidDeeds, NothingToUndo, UnknownName
from placeworths.moments import Moment, Trial
from placeworths.webchecks import check_web

DEED_SIZES = {"set": 3, "drop": 2, "claim": 2, "lift": 2}


class Book:
    """Webs and claims; the state of each moment is the pair of a dict from names to webs and the tuple of claims."""

    def __init__(self):
        self._now = Moment(({}, ()), None)

    @property
    def names(self):
        """The ascending tuple of the names."""
        return tuple(sorted(list(self._now.state[0])))

    @property
    def claims(self):
        """The tuple of the claims."""
        return self._now.state[1]

    @property
    def changes(self):
        """How many changes can be taken back."""
        return self._now.depth

    def __len__(self):
        return len(self._now.state[0])

    def __contains__(self, x):
        return isinstance(x, str) and x in self._now.state[0]

    def __iter__(self):
        raise TypeError("a book is not iterated over")

    def __getitem__(self, at):
        if at not in self:
            raise UnknownName(at)
        return self._now.state[0][at]

    def __setitem__(self, at, worth):
        check_name(at)
        check_web(worth)
        webs, claims = self._now.state
        check_held(claims, at, worth)
        self._now = Moment(({**webs, at: worth}, claims), self._now)

    def drop(self, name):
        """Takes the web with this name away."""
        if name not in self:
            raise UnknownName(name)
        webs, claims = self._now.state
        for index, claim in enumerate(claims):
            if claim[1] == name:
                raise InUse(index)
        self._now = Moment(({one: webs[one] for one in webs if one != name}, claims), self._now)

    def claim(self, claim):
        """Makes a claim more, behind the others."""
        check_claim(claim)
        name = claim[1]
        if name not in self:
            raise UnknownName(name)
        webs, claims = self._now.state
        check_held((*claims, claim), name, webs[name])
        self._now = Moment((webs, (*claims, claim)), self._now)

    def lift(self, index):
        """Takes the claim with this index away."""
        webs, claims = self._now.state
        check_index(index, len(claims))
        self._now = Moment((webs, (*claims[:index], *claims[index + 1:])), self._now)

    def undo(self):
        """Takes back the last change that has not been taken back."""
        if self._now.before is None:
            raise NothingToUndo()
        self._now = self._now.before

    def do_all(self, *deeds, watch=None):
        """Does all deeds, or none if one fails, and returns their number."""
        for index, deed in enumerate(deeds):
            if not is_deed(deed):
                raise InvalidDeeds(index)
        kept = self._now
        try:
            for deed in deeds:
                self._do(deed)
                if watch is not None:
                    watch(self)
            kept = None
        finally:
            if kept is not None:
                self._now = kept
        return len(deeds)

    def trial(self):
        """For a `with` statement, at the end of which the book is as it was at its beginning."""
        return Trial(self)

    def tried(self, action):
        """What the function returns for the book, within a trial."""
        with self.trial() as book:
            return action(book)

    def _do(self, deed):
        """Does one deed."""
        word, told = deed[0], deed[1]
        if word == "set":
            self[told] = deed[2]
        elif word == "drop":
            self.drop(told)
        elif word == "claim":
            self.claim(told)
        else:
            self.lift(told)


def is_deed(value):
    """Whether the value is a tuple of a deed's word and as many elements as belong to it."""
    if not isinstance(value, tuple) or not value or not isinstance(value[0], str):
        return False
    return value[0] in DEED_SIZES and len(value) == DEED_SIZES[value[0]]


def check_held(claims, name, web):
    """Raises Broken if a claim of this name does not hold for the web."""
    index = first_broken(claims, name, web)
    if index is not None:
        raise Broken(index)
