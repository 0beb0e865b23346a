"""The errors that are raised where what should be a web is none, or where a web is not of a kind."""

from placeworths.errors import InvalidPlace, NotAChain, NotAWeb, NotCoins, NotParts
from placeworths.webs import Web


def check_web(value):
    """Raises NotAWeb if the value is no web."""
    if not isinstance(value, Web):
        raise NotAWeb(value)


def check_chain(value):
    """Raises NotAWeb if the value is no web, NotAChain if it is a web but no chain."""
    check_web(value)
    if not all([row[1] in ("end", "chance") for row in value.rows]):
        raise NotAChain()


def check_coins(web):
    """Raises NotCoins if a web has an inner place that is no coin, NotParts if an end's number is not from 0 to 1."""
    if not all([row[1] in ("end", "coin") for row in web.rows]):
        raise NotCoins()
    numbers = [what for _, kind, what in web.rows if kind == "end"]
    if not all([0 <= top <= bottom for top, bottom in numbers]):
        raise NotParts()


def check_arrow(web, place, to):
    """Raises InvalidPlace if no arrow of the place leads to the other one."""
    if to not in web.arrows(place):
        raise InvalidPlace(to)
