"""What kinds of fields have: their least texts, beginnings first, whether they are whole."""

from jointkeys.fields import Ended, Fixed, Listed, Marked, Number, Word
from jointkeys.numerals import digits_of, greatest_of


def least_texts(field, count):
    """The first texts of a field, shorter ones first, then in the order of strings."""
    if count < 1:
        return []
    if isinstance(field, Word):
        return least_words(field, count)
    if isinstance(field, Ended):
        return [word + field.sign for word in least_words(field, count)]
    if isinstance(field, Number):
        return [digits_of(number) for number in least_numbers(field.least, field.most, count)]
    if isinstance(field, Fixed):
        numbers = least_numbers(0, greatest_of(field.width), count)
        return [digits_of(number).zfill(field.width) for number in numbers]
    if isinstance(field, Listed):
        return shorter_first(field.texts)[:count]
    behind_mark = [field.mark + text for text in least_texts(field.field, count)]
    return shorter_first([field.none] + behind_mark)[:count]


def shorter_first(texts):
    return sorted(texts, key=lambda text: (len(text), text))


def least_numbers(least, most, count):
    """The first numbers from the least one on; there is no last one if `most` is None."""
    end = least + count
    if most is not None:
        end = min(end, most + 1)
    return list(range(least, end))


def least_words(field, count):
    """The first words of a field of words or ended ones, shorter ones first."""
    signs = sorted(field.signs)
    words = [""]
    for _ in range(field.least):
        words = longer_words(signs, words, count)
    found = list(words)
    length = field.least
    while len(found) < count and length != field.most:
        words = longer_words(signs, words, count - len(found))
        found.extend(words)
        length += 1
    return found


def longer_words(signs, words, count):
    """The first words that are one sign longer than these, which are the first of their length."""
    found = []
    for sign in signs:
        for word in words:
            if len(found) == count:
                return found
            found.append(sign + word)
    return found


def has_beginnings_first(field):
    """Whether each text that is a beginning of another one is of a value before that one's."""
    if isinstance(field, Marked):
        return has_beginnings_first(field.field)
    if not isinstance(field, Listed):
        # Words stand in the order of strings, and a number with more digits is greater;
        # no fixed or ended text is a beginning of another one.
        return True
    texts = field.texts
    return not any([texts[early].startswith(texts[late])
                    for late in range(len(texts)) for early in range(late)])


def is_whole(field):
    """Whether a field has beginnings first, and its texts end in texts wherever one begins."""
    if isinstance(field, Number):
        # From 0 to 100 or beyond, 0 stands within a text without being the end of it.
        return field.least > 0 or (field.most is not None and field.most < 100)
    if isinstance(field, Listed):
        return has_beginnings_first(field) and all([has_whole_ends(field.texts, text) for text in field.texts])
    return has_beginnings_first(field)


def has_whole_ends(texts, text):
    """Whether each end of a text, but itself, that begins with one of the texts is one of them."""
    ends = [text[start:] for start in range(1, len(text))]
    return all([end in texts or not begins_with_one(end, texts) for end in ends])


def begins_with_one(text, beginnings):
    return any([text.startswith(beginning) for beginning in beginnings])
