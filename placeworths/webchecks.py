"""The errors that are raised where what should be a web is none, or where a web is not of a kind."""

from placeworths.checks import check_place, is_part
from placeworths.errors import InvalidPlace, NotAChain, NotAWeb, NotCoins, NotParts, TooMixed
from placeworths.webs import Web


def check_web(value):
    """Raises NotAWeb if the value is no web."""
    if not isinstance(value, Web):
        raise NotAWeb(value)


def check_chain(value):
    """Raises NotAWeb if the value is no web, NotAChain if it is a web but no chain."""
    check_web(value)
    if not all([row[1] in ("end", "chance") for row in value.rows]):
        raise NotAChain()


def check_unmixed(value):
    """Raises NotAWeb if the value is no web, TooMixed if it has a coin, or both ours and theirs."""
    check_web(value)
    kinds = [row[1] for row in value.rows]
    if "coin" in kinds or "ours" in kinds and "theirs" in kinds:
        raise TooMixed()


def check_end(web, value):
    """Raises UnknownPlace if the value is no place of the web, InvalidPlace if it is one but no end."""
    check_place(value, web.places)
    if value not in web.ends:
        raise InvalidPlace(value)


def are_coins(rows):
    """Whether all inner places of a web's rows are coins."""
    return all([row[1] in ("end", "coin") for row in rows])


def are_parts(rows):
    """Whether all ends of a web's rows have numbers from 0 to 1."""
    return all([is_part(what) for _, kind, what in rows if kind == "end"])


def check_coins(web):
    """Raises NotCoins if a web has an inner place that is no coin, NotParts if an end's number is not from 0 to 1."""
    if not are_coins(web.rows):
        raise NotCoins()
    if not are_parts(web.rows):
        raise NotParts()


def check_arrow(web, place, to):
    """Raises InvalidPlace if no arrow of the place leads to the other one."""
    if to not in web.arrows(place):
        raise InvalidPlace(to)
