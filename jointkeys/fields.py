"""The six kinds of fields: their values, the texts of these, and their order.

Each kind has the same methods, which the functions at the end of this file and
other files of the package call:

- has_value(thing): whether something, of whatever kind, is a value;
- text_for(value): the text of a value;
- has_text(text): whether a string is the text of a value;
- value_for(text): the value with a text that some value has;
- puts_before(one, other): whether one value is before another one;
- has_sign(sign), but not of Marked, which is never marked: whether a sign stands in some text.
"""

from jointkeys.errors import BadField, NoText, NoValue
from jointkeys.numerals import digits_of, greatest_of, is_number, is_numeral, number_of
from jointkeys.signs import DIGITS, are_signs, is_made_of, is_sign


def check_signs(signs):
    if not are_signs(signs) or signs == "" or len(set(signs)) < len(signs):
        raise BadField("signs")


def check_span(least, most):
    if not is_number(least) or least < 0:
        raise BadField("least")
    if most is not None and (not is_number(most) or most < least):
        raise BadField("most")


def is_within(field, amount):
    """Whether a length or a number is one of those from least to most."""
    return field.least <= amount and (field.most is None or amount <= field.most)


def is_word_of(field, thing):
    """Whether something is a word of the signs and lengths of a field."""
    return isinstance(thing, str) and is_made_of(thing, field.signs) and is_within(field, len(thing))


def has_words_with(field, sign):
    """Whether a sign stands in some word of a field; in the empty word stands none."""
    return sign in field.signs and field.most != 0


class Word:
    """All strings of a number of signs, each its own text."""

    def __init__(self, signs, least, most):
        check_signs(signs)
        check_span(least, most)
        self.signs = signs
        self.least = least
        self.most = most

    def __eq__(self, other):
        return (type(self) is type(other) and self.signs == other.signs
                and self.least == other.least and self.most == other.most)

    def has_value(self, thing):
        return is_word_of(self, thing)

    def text_for(self, value):
        return value

    def has_text(self, text):
        return is_word_of(self, text)

    def value_for(self, text):
        return text

    def puts_before(self, one, other):
        return one < other

    def has_sign(self, sign):
        return has_words_with(self, sign)


class Number:
    """The integers of a range, written without leading zeros."""

    def __init__(self, least, most):
        check_span(least, most)
        self.least = least
        self.most = most

    def __eq__(self, other):
        return type(self) is type(other) and self.least == other.least and self.most == other.most

    def has_value(self, thing):
        return is_number(thing) and is_within(self, thing)

    def text_for(self, value):
        return digits_of(value)

    def has_text(self, text):
        return is_numeral(text) and is_within(self, number_of(text))

    def value_for(self, text):
        return number_of(text)

    def puts_before(self, one, other):
        return one < other

    def has_sign(self, sign):
        # Ten numbers in a row end with all ten digits, so only fewer are looked through.
        if self.most is None or self.most - self.least >= 9:
            return sign in DIGITS
        return any([sign in digits_of(number) for number in range(self.least, self.most + 1)])


class Fixed:
    """The integers that have at most a number of digits, written with leading zeros."""

    def __init__(self, width):
        if not is_number(width) or width < 1:
            raise BadField("width")
        self.width = width

    def __eq__(self, other):
        return type(self) is type(other) and self.width == other.width

    def has_value(self, thing):
        return is_number(thing) and 0 <= thing <= greatest_of(self.width)

    def text_for(self, value):
        return digits_of(value).zfill(self.width)

    def has_text(self, text):
        return len(text) == self.width and is_made_of(text, DIGITS)

    def value_for(self, text):
        return number_of(text)

    def puts_before(self, one, other):
        return one < other

    def has_sign(self, sign):
        return sign in DIGITS


class Listed:
    """Some strings, each its own text, in the order given."""

    def __init__(self, texts):
        if not isinstance(texts, (list, tuple)) or len(texts) == 0:
            raise BadField("texts")
        if not all([are_signs(text) for text in texts]) or len(set(texts)) < len(texts):
            raise BadField("texts")
        self.texts = tuple(texts)

    def __eq__(self, other):
        return type(self) is type(other) and self.texts == other.texts

    def has_value(self, thing):
        return isinstance(thing, str) and thing in self.texts

    def text_for(self, value):
        return value

    def has_text(self, text):
        return text in self.texts

    def value_for(self, text):
        return text

    def puts_before(self, one, other):
        return self.texts.index(one) < self.texts.index(other)

    def has_sign(self, sign):
        return any([sign in text for text in self.texts])


class Ended:
    """The values of a word, each with a sign behind it as its text."""

    def __init__(self, signs, sign, least, most):
        check_signs(signs)
        if not is_sign(sign) or sign in signs:
            raise BadField("sign")
        check_span(least, most)
        self.signs = signs
        self.sign = sign
        self.least = least
        self.most = most

    def __eq__(self, other):
        return (type(self) is type(other) and self.signs == other.signs and self.sign == other.sign
                and self.least == other.least and self.most == other.most)

    def has_value(self, thing):
        return is_word_of(self, thing)

    def text_for(self, value):
        return value + self.sign

    def has_text(self, text):
        return text[-1:] == self.sign and is_word_of(self, text[:-1])

    def value_for(self, text):
        return text[:-1]

    def puts_before(self, one, other):
        return one < other

    def has_sign(self, sign):
        return sign == self.sign or has_words_with(self, sign)


class Marked:
    """None, written as a sign of its own, and the values of a field behind a mark."""

    def __init__(self, none, mark, field):
        if not is_sign(none):
            raise BadField("none")
        if not is_sign(mark) or mark == none:
            raise BadField("mark")
        if not isinstance(field, (Word, Number, Fixed, Listed, Ended)):
            raise BadField("field")
        if field.has_sign(none) or field.has_sign(mark):
            raise BadField("field")
        self.none = none
        self.mark = mark
        self.field = field

    def __eq__(self, other):
        return (type(self) is type(other) and self.none == other.none
                and self.mark == other.mark and self.field == other.field)

    def has_value(self, thing):
        return thing is None or self.field.has_value(thing)

    def text_for(self, value):
        if value is None:
            return self.none
        return self.mark + self.field.text_for(value)

    def has_text(self, text):
        return text == self.none or (text[:1] == self.mark and self.field.has_text(text[1:]))

    def value_for(self, text):
        if text == self.none:
            return None
        return self.field.value_for(text[1:])

    def puts_before(self, one, other):
        if other is None:
            return False
        return one is None or self.field.puts_before(one, other)


def check_value(field, thing):
    if not field.has_value(thing):
        raise NoValue(thing)


def text_of(field, value):
    """The text of a value."""
    check_value(field, value)
    return field.text_for(value)


def value_of(field, text):
    """The value with a text."""
    if not isinstance(text, str) or not field.has_text(text):
        raise NoText(text)
    return field.value_for(text)


def is_before(field, one, other):
    """Whether one value is before another one in the order of the field."""
    check_value(field, one)
    check_value(field, other)
    return field.puts_before(one, other)
