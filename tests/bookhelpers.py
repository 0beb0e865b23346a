"""What the tests of books and consoles need: plain rows of webs and claims, led by the words of the document."""

from fractions import Fraction

from placeworths.errors import (
    Broken, InUse, InvalidClaim, InvalidIndex, InvalidName, NotAWeb, NothingToUndo, UnknownName,
)
from placeworths.webs import Web
from placeworths.worths import worths
from tests.helpers import Nasty, fraction, number, odd_values, wrong_numbers
from tests.webhelpers import DUEL, ENDS, STREET, odd_values_without_places, some_webs

LOW_ENDS = Web.read("a coin x y\nx end -1/2\ny end 1/1")
HIGH_ENDS = Web.read("a coin x y\nx end 0/1\ny end 3/2")
LONE = Web.read("x end 1/3\ny end 1/1")
ENDING_COINS = Web.read("a coin b x\nb coin x y\nx end 1/4\ny end 1/1")
THEIRS = Web.read("a theirs b:0/1 x:1/2\nb chance x:1/3 y:2/3\nx end 1/1\ny end 1/2")
MIXED = Web.read("a coin b x\nb ours x:0/1 y:1/4\nx end 0/1\ny end 1/1")


def is_word(value, least, most, letters, begin=None):
    return type(value) is str and least <= len(value) <= most and all(one in letters for one in value)


def is_name(value):
    return is_word(value, 1, 8, "abcdefghijklmnopqrstuvwxyz")


def worth_table(web):
    return {place: fraction(value) for place, value in zip(web.places, worths(web))}


def holds(claim, web):
    """Whether a claim in form holds for a web, by the words of the document."""
    word, told = claim[0], claim[2:]
    if word == "ending":
        return web.is_ending
    if told[0] not in web.places:
        return False
    table = worth_table(web)
    kinds = {row[0]: row for row in web.rows}
    if word == "between":
        return fraction(told[1]) <= table[told[0]] <= fraction(told[2])
    if word == "above":
        return told[1] in table and table[told[0]] >= table[told[1]]
    if word == "best":
        _, kind, what = kinds[told[0]]
        if kind not in ("ours", "theirs"):
            return False
        return any(to == told[1] and table[to] - fraction(price) == table[told[0]] for to, price in what)
    parts = all(0 <= fraction(row[2]) <= 1 for row in web.rows if row[1] == "end")
    coins = all(row[1] in ("coin", "end") for row in web.rows)
    return parts and coins and fraction(told[1]) > 1 - table[told[0]]


class PlainBook:
    """A book as plain rows: webs, claims, and all that was ahead of each change."""

    def __init__(self):
        self.webs, self.claims, self.past = {}, [], []

    def copy(self):
        told = PlainBook()
        told.webs, told.claims, told.past = dict(self.webs), list(self.claims), list(self.past)
        return told

    def hold(self, other):
        self.webs, self.claims, self.past = dict(other.webs), list(other.claims), list(other.past)

    def broken(self, webs, claims):
        for index, claim in enumerate(claims):
            if not holds(claim, webs[claim[1]]):
                return index
        return None

    def change(self, webs, claims):
        """Makes a change, or tells the error that is due."""
        index = self.broken(webs, claims)
        if index is not None:
            return Broken, {"index": index}
        self.past.append((self.webs, self.claims))
        self.webs, self.claims = webs, claims
        return None

    def set(self, name, web):
        if not is_name(name):
            return InvalidName, {"given": name}
        if type(web) is not Web:
            return NotAWeb, {"given": web}
        return self.change({**self.webs, name: web}, self.claims)

    def drop(self, name):
        if type(name) is not str or name not in self.webs:
            return UnknownName, {"given": name}
        for index, claim in enumerate(self.claims):
            if claim[1] == name:
                return InUse, {"index": index}
        return self.change({one: self.webs[one] for one in self.webs if one != name}, self.claims)

    def claim(self, claim):
        """A claim that is known to be in form, or is none at all."""
        if claim in ((), ("ending",), ("between", "a", "a", (1, 1)), None):
            return InvalidClaim, {"given": claim}
        if claim[1] not in self.webs:
            return UnknownName, {"given": claim[1]}
        return self.change(self.webs, [*self.claims, claim])

    def lift(self, index):
        if type(index) is not int or not 0 <= index < len(self.claims):
            return InvalidIndex, {"given": index}
        return self.change(self.webs, self.claims[:index] + self.claims[index + 1:])

    def undo(self):
        if not self.past:
            return NothingToUndo, {}
        self.webs, self.claims = self.past.pop()
        return None

    def do(self, deed):
        return getattr(self, deed[0])(*deed[1:])


def shown(book):
    """All that a book shows."""
    names = book.names
    return names, tuple((name, book[name]) for name in names), book.claims, book.changes, len(book), bool(book)


def shown_plain(plain):
    names = tuple(sorted(plain.webs))
    told = tuple((name, plain.webs[name]) for name in names)
    return names, told, tuple(plain.claims), len(plain.past), len(names), bool(names)


def pool(random):
    """Some webs of all kinds."""
    return [STREET, DUEL, ENDS, LOW_ENDS, HIGH_ENDS, LONE, ENDING_COINS, THEIRS, MIXED, *some_webs(random, 14)]


def random_claim(random, plain):
    """Some claim in form, mostly of a web of the book and mostly true, or nearly so."""
    name = random.choice([*plain.webs, "q"]) if random.random() < 0.97 and plain.webs else "q"
    web = plain.webs.get(name, STREET)
    place, other = random.choice(web.places), random.choice(web.places)
    if random.random() < 0.05:
        place = "zz"
    table = worth_table(web)
    worth = table.get(place, Fraction(0))
    word = random.choice(("between", "above", "best", "ending", "wins"))
    if word == "ending":
        return (word, name)
    if word == "between":
        steps = (Fraction(0), Fraction(0), Fraction(1, 7), Fraction(3), Fraction(-1, 9))
        return (word, name, place, number(worth - random.choice(steps)), number(worth + random.choice(steps)))
    if word == "wins":
        need = min(max(1 - worth, Fraction(0)), Fraction(1))
        more = random.choice((Fraction(0), Fraction(1, 100), Fraction(1)))
        return (word, name, place, number(min(Fraction(1), need + more)))
    if word == "best" and random.random() < 0.8:
        chosen = [row for row in web.rows if row[1] in ("ours", "theirs")]
        if chosen:
            row = random.choice(chosen)
            return (word, name, row[0], random.choice(row[2])[0])
    return (word, name, place, other)


def random_deed(random, plain, webs):
    """Some deed, which may fail."""
    drawn = random.random()
    if drawn < 0.3:
        name = random.choice(("a", "b", "c", "longname", "longname", "A", "toolonger", ""))
        return ("set", name, random.choice(webs) if random.random() < 0.95 else None)
    if drawn < 0.4:
        return ("drop", random.choice(("a", "b", "c", "longname", "q", None, ("a",))))
    if drawn < 0.85:
        wrong = random.choice(((), ("ending",), ("between", "a", "a", (1, 1)), None))
        return ("claim", random_claim(random, plain) if random.random() < 0.96 else wrong)
    return ("lift", random.choice((0, 1, len(plain.claims) - 1, len(plain.claims), -1, True, None)))


def wrong_claims():
    """Values that have none of the forms of claims, whatever stands in the place of the name."""
    low, high = (0, 1), (5, 1)
    wrongs = odd_values() + [
        (), ("between",), ("between", "a"), ("between", "a", "p"), ("between", "a", "p", low),
        ("between", "a", "p", low, high, high), ["between", "a", "p", low, high], ("between", "a", "p", high),
        ("Between", "a", "p", low, high), ("", "a"), ("endings", "a"), ("ending",), ("ending", "a", "p"), ["ending", "a"],
        ("above", "a", "p"), ("above", "a", "p", "q", "r"), ("best", "a", "p"), ("best", "a", "p", "q", "r"),
        ("wins", "a", "p"), ("wins", "a", "p", (1, 2), (1, 2)), ("worth", "a", "p", low), ("at least", "a", "p", low),
        ("a", "ending"), (None, "a"), (b"ending", "a"), (("ending",), "a"), (Nasty(), "a"), ("ending "  , "a"),
        ("wins", "a", "p", (-1, 2)), ("wins", "a", "p", (3, 2)), ("wins", "a", "p", (2, 1)), ("wins", "a", "p", 1),
        "ending a", {"ending": "a"}, ("above", "a", ("p", "q")), ("between", "a", "p", (low, high)),
        ("wins", "a", "p", (-(10 ** 30), 1)), ("wins", "a", "p", (10 ** 30 + 1, 10 ** 30)),
    ]
    for value in wrong_numbers():
        wrongs += [("between", "a", "p", value, high), ("between", "a", "p", low, value), ("wins", "a", "p", value)]
    for value in [*odd_values_without_places(), "", "A", "1a", "abcd", "a b", "a-", "pP", b"p", ("p",), Nasty(), 1]:
        wrongs += [
            ("between", "a", value, low, high), ("above", "a", value, "q"), ("above", "a", "p", value),
            ("best", "a", value, "q"), ("best", "a", "p", value), ("wins", "a", value, (1, 2)),
        ]
    return wrongs
