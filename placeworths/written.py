"""Numbers as texts, and texts as numbers.

Python turns no integer of some thousands of digits into a text or back at once,
but what is told may have that many: so this goes by stretches of 64 digits.
"""

from placeworths.exact import is_fraction


def integer_text(integer):
    """The digits of an integer, with - ahead if it is below 0."""
    stretches = []
    left = abs(integer)
    while left >= 10 ** 64:
        left, low = divmod(left, 10 ** 64)
        stretches.append(str(low).zfill(64))
    stretches.append(str(left))
    digits = "".join(stretches[::-1])
    return f"-{digits}" if integer < 0 else digits


def is_plain(digits):
    """Whether a text is that of an integer from 0 on, without a 0 too much."""
    if not digits.isascii() or not digits.isdigit():
        return False
    return digits[0] != "0" or digits == "0"


def integer_in(digits):
    """The integer of a plain text."""
    first = len(digits) % 64
    result = int(digits[:first]) if first else 0
    for start in range(first, len(digits), 64):
        result = result * 10 ** 64 + int(digits[start:start + 64])
    return result


def number_text(number):
    """A fraction as n/d."""
    return f"{integer_text(number[0])}/{integer_text(number[1])}"


def number_in(text):
    """The fraction that is written as this text, None if none is."""
    top, _, bottom = text.partition("/")
    digits = top.removeprefix("-")
    if not is_plain(digits) or not is_plain(bottom):
        return None
    size = integer_in(digits)
    if digits != top and size == 0:
        return None
    number = (size if digits == top else -size, integer_in(bottom))
    return number if is_fraction(number) else None
