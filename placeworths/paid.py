"""What can be had by paying to see numbers in a told order, with the way back to what was seen."""

from placeworths.exact import ZERO, greater, in_order, is_below, minus, multiplied, plus
from placeworths.weights import weights_up_to


def ordered_worth(boxes, floor):
    """The greatest mean of what one has less what was paid, if the boxes are opened in their order until one ends."""
    worths = {number: number for number in had_behind(boxes, floor)}
    for at in range(len(boxes) - 1, -1, -1):
        worths = worths_ahead(boxes[at], had_behind(boxes[:at], floor), worths)
    return worths[floor]


def had_behind(boxes, floor):
    """The ascending list of all that one may have at most when these boxes have been opened."""
    seen = [number for draw, _ in boxes for number, _ in draw]
    return in_order([floor, *[number for number in seen if is_below(floor, number)]])


def worths_ahead(box, held, worths):
    """The worths of having these ascending numbers ahead of a box, the worths behind it being told."""
    draw, price = box
    told = {}
    at = len(draw)
    above = ZERO
    # From the greatest one down, so that what lies above the one held only grows.
    for had, chance in list(zip(held, weights_up_to(draw, held)))[::-1]:
        while at > 0 and is_below(had, draw[at - 1][0]):
            at -= 1
            above = plus(above, multiplied(draw[at][1], worths[draw[at][0]]))
        behind = plus(above, multiplied(chance, worths[had]))
        told[had] = greater(had, minus(behind, price))
    return told
