"""The signs of fields, and the separators on both sides of them."""

# In the order of characters, as [3] of the document lists them.
SIGNS = "-./0123456789ABCDEFGHIJKLMNOPQRSTUVWXYZ_abcdefghijklmnopqrstuvwxyz"
DIGITS = "0123456789"
LOW = "!"
HIGH = "~"


def is_made_of(text, signs):
    """Whether all characters of a text are among the signs."""
    return text.strip(signs) == ""


def is_sign(thing):
    return isinstance(thing, str) and len(thing) == 1 and thing in SIGNS


def are_signs(thing):
    """Whether something is a string of signs, perhaps an empty one."""
    return isinstance(thing, str) and is_made_of(thing, SIGNS)
