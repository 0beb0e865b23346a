"""A console: a book that is led, and asked, by lines."""

from placeworths.bids import need
from placeworths.books import Book
from placeworths.claims import CLAIM_SIZES
from placeworths.errors import InvalidLine
from placeworths.plays import Play
from placeworths.sayings import saying_of
from placeworths.webs import Web
from placeworths.worths import worth, worths
from placeworths.written import number_text


class Console:
    """Keeps a book."""

    def __init__(self):
        self._book = Book()

    @property
    def book(self):
        """The book."""
        return self._book

    def say(self, line):
        """Executes a line and returns what is to be answered."""
        saying = saying_of(line)
        if saying is None:
            raise InvalidLine(line)
        word = saying[0]
        if word == "set":
            return self._put(saying[1], Web(saying[2]))
        if word == "undo":
            self._book.undo()
        elif word == "drop":
            self._book.drop(saying[1])
        elif word in CLAIM_SIZES:
            self._book.claim(saying)
        else:
            return answer(self._book[saying[1]], word, saying[2:])
        return "ok"

    def _put(self, name, web):
        """Sets a name, and tells of what kind its web is."""
        self._book[name] = web
        return "ending" if web.is_ending else "coins"


def answer(web, word, told):
    """What is answered to a question about a web."""
    if word == "worths":
        return " ".join([number_text(value) for value in worths(web)])
    place = told[0]
    if word == "worth":
        return number_text(worth(web, place))
    if word == "need":
        return number_text(need(web, place))
    advice = Play(web, place).advice
    return "none" if advice is None else advice
