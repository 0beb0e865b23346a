"""Plays made at once: by lines of moves, or along advice and told turns."""

from placeworths.checks import check_index
from placeworths.errors import InvalidIndex, InvalidLog
from placeworths.plays import Play

MOVE = "go "


def played(web, place, lines):
    """A new play of the web from the place on, with the moves of these lines."""
    play = Play(web, place)
    if not isinstance(lines, tuple):
        raise InvalidLog(None)
    for index, line in enumerate(lines):
        if not isinstance(line, str) or not line.startswith(MOVE):
            raise InvalidLog(index)
        to = line.removeprefix(MOVE)
        if to not in web.arrows(play.place):
            raise InvalidLog(index)
        play.go(to)
    return play


def best_play(web, place, turns):
    """A new play in which both sides go as they are advised, and the turns tell by index where the others go."""
    play = Play(web, place)
    if not isinstance(turns, tuple):
        raise InvalidIndex(turns)
    used = 0
    while not play.is_over:
        to = play.advice
        if to is None:
            if used == len(turns):
                break
            arrows = web.arrows(play.place)
            check_index(turns[used], len(arrows))
            to = arrows[turns[used]]
            used += 1
        play.go(to)
    return play
