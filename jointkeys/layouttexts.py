"""Layouts and rows as texts, and back."""

from jointkeys.errors import BadText, NoRow
from jointkeys.fields import Ended, Fixed, Listed, Marked, Number, Word
from jointkeys.layouts import Layout, check_row
from jointkeys.numerals import digits_of, is_numeral, number_of
from jointkeys.signs import HIGH, LOW


def layout_text(layout):
    """The text of a layout: a word for each field and for each separator."""
    words = [field_word(layout.fields[0])]
    for joint, field in zip(layout.joints, layout.fields[1:]):
        if joint != "":
            words.append(joint)
        words.append(field_word(field))
    return " ".join(words)


def field_word(field):
    if isinstance(field, Word):
        return f"word:{field.signs}:{span_word(field)}"
    if isinstance(field, Number):
        return f"number:{span_word(field)}"
    if isinstance(field, Fixed):
        return f"fixed:{field.width}"
    if isinstance(field, Listed):
        return "listed:" + ",".join(list(field.texts))
    if isinstance(field, Ended):
        return f"ended:{field.signs}:{field.sign}:{span_word(field)}"
    return f"marked:{field.none}:{field.mark}:{field_word(field.field)}"


def span_word(field):
    most = "*" if field.most is None else str(field.most)
    return f"{field.least}:{most}"


def read_layout(text):
    """The layout with a text."""
    if not isinstance(text, str):
        raise BadText(0)
    words = text.split(" ")
    joints = []
    told = []
    for place, word in enumerate(words):
        if word in (LOW, HIGH):
            if place == 0 or place == len(words) - 1 or words[place - 1] in (LOW, HIGH):
                raise BadText(place)
            joints.append(word)
        elif not is_field_word(word):
            raise BadText(place)
        else:
            if place > 0 and words[place - 1] not in (LOW, HIGH):
                joints.append("")
            told.append(word)
    return Layout([field_in(word) for word in told], joints)


def parts_of(word):
    """The parts of a field's word: those of each mark around the field, and those of the field.

    There may be many marks, so they are taken off one by one.
    """
    marks = []
    while word.startswith("marked:") and word.count(":") > 2:
        _, none, mark, word = word.split(":", 3)
        marks.append((none, mark))
    return (marks, word.split(":"))


def is_field_word(word):
    marks, parts = parts_of(word)
    if not all([are_free([none, mark]) for none, mark in marks]):
        return False
    if parts[0] == "word":
        return len(parts) == 4 and are_free(parts[1:2]) and are_spans(parts[2:])
    if parts[0] == "number":
        return len(parts) == 3 and are_spans(parts[1:])
    if parts[0] == "fixed":
        return len(parts) == 2 and is_short_numeral(parts[1])
    if parts[0] == "ended":
        return len(parts) == 5 and are_free(parts[1:3]) and are_spans(parts[3:])
    return parts[0] == "listed" and len(parts) == 2


def are_free(texts):
    """Whether these parts of a word, which have no blank and no colon, have no comma, either."""
    return not any(["," in text for text in texts])


def are_spans(texts):
    least, most = texts
    return is_short_numeral(least) and (most == "*" or is_short_numeral(most))


def is_short_numeral(text):
    """Whether a text is a number of one to nine digits, without leading zeros."""
    return is_numeral(text) and len(text) <= 9


def field_in(word):
    """The field with a word of a field; refused from the inside to the outside."""
    marks, parts = parts_of(word)
    field = plain_field(parts)
    for none, mark in reversed(marks):
        field = Marked(none, mark, field)
    return field


def plain_field(parts):
    if parts[0] == "word":
        return Word(parts[1], number_of(parts[2]), most_in(parts[3]))
    if parts[0] == "number":
        return Number(number_of(parts[1]), most_in(parts[2]))
    if parts[0] == "fixed":
        return Fixed(number_of(parts[1]))
    if parts[0] == "ended":
        return Ended(parts[1], parts[2], number_of(parts[3]), most_in(parts[4]))
    return Listed(parts[1].split(","))


def most_in(text):
    return None if text == "*" else number_of(text)


def row_word(layout, row):
    """The text of a row in commands."""
    check_row(layout, row)
    return ",".join([value_word(value) for value in row])


def value_word(value):
    if value is None:
        return "="
    return digits_of(value) if isinstance(value, int) else value


def read_row(layout, text):
    """The row with a text of commands."""
    row = read_values(layout, text)
    if len(row) < len(layout.fields):
        raise NoRow(len(row))
    return row


def read_values(layout, text):
    """The values of the first fields of a layout, or of all, with a text of commands."""
    if not isinstance(text, str):
        raise NoRow(-1)
    values = []
    for place, word in enumerate(text.split(",")):
        if place >= len(layout.fields) or not is_value_word(layout.fields[place], word):
            raise NoRow(place)
        values.append(value_in(layout.fields[place], word))
    return tuple(values)


def is_value_word(field, word):
    if isinstance(field, Marked):
        return word == "=" or is_value_word(field.field, word)
    if isinstance(field, (Number, Fixed)):
        return is_numeral(word) and field.has_value(number_of(word))
    return field.has_value(word)


def value_in(field, word):
    if isinstance(field, Marked):
        return None if word == "=" else value_in(field.field, word)
    return number_of(word) if isinstance(field, (Number, Fixed)) else word
