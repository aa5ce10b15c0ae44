"""Numbers and their digits.

Python refuses to turn more than a few thousand digits into a number, or back,
at once; so both are done by pieces of 64 digits.
"""

from jointkeys.signs import DIGITS, is_made_of


def is_number(thing):
    """Whether something is a number; True and False are integers of Python, but no numbers."""
    return isinstance(thing, int) and not isinstance(thing, bool)


def is_numeral(text):
    """Whether a text has the digits of a number, without leading zeros."""
    if text == "" or not is_made_of(text, DIGITS):
        return False
    return text == "0" or text[0] != "0"


def digits_of(number):
    """The digits of a number that is not negative."""
    limit = 10 ** 64
    pieces = []
    while number >= limit:
        number, piece = divmod(number, limit)
        pieces.append(str(piece).zfill(64))
    pieces.append(str(number))
    return "".join(reversed(pieces))


def number_of(digits):
    """The number with these digits, of which there is at least one; leading zeros may stand."""
    limit = 10 ** 64
    start = len(digits) % 64
    number = int("0" + digits[:start])
    for at in range(start, len(digits), 64):
        number = number * limit + int(digits[at:at + 64])
    return number


def greatest_of(width):
    """The greatest number of this many digits."""
    return number_of("9" * width)
