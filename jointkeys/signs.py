"""The signs of fields, the separators on both sides of them, and masks: sets of characters as numbers.

A mask has a bit for each of its characters; those that are less have the lower bits.
"""

# In the order of characters, as [3] of the document lists them.
SIGNS = "-./0123456789ABCDEFGHIJKLMNOPQRSTUVWXYZ_abcdefghijklmnopqrstuvwxyz"
DIGITS = "0123456789"
LOW = "!"
HIGH = "~"
# All characters that stand in texts: the signs between the separators.
CHARACTERS = "!-./0123456789ABCDEFGHIJKLMNOPQRSTUVWXYZ_abcdefghijklmnopqrstuvwxyz~"


def is_made_of(text, signs):
    """Whether all characters of a text are among the signs."""
    return text.strip(signs) == ""


def is_sign(thing):
    return isinstance(thing, str) and len(thing) == 1 and thing in SIGNS


def are_signs(thing):
    """Whether something is a string of signs, perhaps an empty one."""
    return isinstance(thing, str) and is_made_of(thing, SIGNS)


def mask_of(characters):
    mask = 0
    for character in characters:
        mask |= 1 << CHARACTERS.index(character)
    return mask


def mask_of_digits(first, end):
    """The digits from a first one up to an end, without this."""
    return ((1 << end) - (1 << first)) << CHARACTERS.index("0")


def least_of(mask):
    return CHARACTERS[(mask & -mask).bit_length() - 1]


def greatest_in(mask):
    return CHARACTERS[mask.bit_length() - 1]


def characters_of(mask):
    """The characters of a mask, in their order."""
    return "".join([character for at, character in enumerate(CHARACTERS) if mask >> at & 1])
