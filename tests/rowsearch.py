"""What a layout keeps, by the words of the document: a search through all of its rows.

Of fields without a greatest length or number only the values with short texts are taken.
"""

from itertools import combinations, permutations, product

from jointkeys.errors import BadField
from jointkeys.fields import Ended, Fixed, Listed, Marked, Number, Word
from jointkeys.layouts import Layout
from tests.helpers import words


def values_of(field, longest=3):
    """The values of a field with their texts, in their order."""
    if isinstance(field, Word):
        return [(word, word) for word in words(field.signs, field.least, most_of(field, longest))]
    if isinstance(field, Ended):
        return [(word, word + field.sign) for word in words(field.signs, field.least, most_of(field, longest))]
    if isinstance(field, Number):
        most = 10 ** longest - 1 if field.most is None else field.most
        return [(number, str(number)) for number in range(field.least, most + 1)]
    if isinstance(field, Fixed):
        return [(number, str(number).zfill(field.width)) for number in range(10 ** field.width)]
    if isinstance(field, Listed):
        return [(text, text) for text in field.texts]
    return [(None, field.none)] + [(value, field.mark + text) for value, text in values_of(field.field, longest)]


def most_of(field, longest):
    return longest if field.most is None else field.most


class Rows:
    """All rows of a layout in their order, with their texts."""

    def __init__(self, layout, longest=3):
        self.layout = layout
        self.choices = [values_of(field, longest) for field in layout.fields]
        picked = list(product(*self.choices))
        self.rows = [tuple(value for value, _ in picks) for picks in picked]
        self.texts = [self.text([text for _, text in picks]) for picks in picked]
        self.places = {row: place for place, row in enumerate(self.rows)}

    def text(self, texts):
        joints = tuple(self.layout.joints) + ("",)
        return "".join(text + joint for text, joint in zip(texts, joints))

    def text_of(self, row):
        return self.texts[self.places[row]]

    def with_text(self, text):
        return [row for row, own in zip(self.rows, self.texts) if own == text]

    def head(self, row, k):
        joints = self.layout.joints[:k + 1]
        texts = [dict(choice)[value] for choice, value in zip(self.choices, row[:k + 1])]
        return "".join(text + joint for text, joint in zip(texts, joints))

    def greedily(self, text):
        row = []
        for choice, joint in zip(self.choices, tuple(self.layout.joints) + ("",)):
            standing = [(len(own), value) for value, own in choice if text.startswith(own)]
            if not standing:
                return None
            length, value = max(standing, key=lambda pair: pair[0])
            row.append(value)
            text = text[length:]
            if not text.startswith(joint):
                return None
            text = text[len(joint):]
        return tuple(row) if text == "" else None

    def are_alike(self, one, other):
        return one != other and self.text_of(one) == self.text_of(other) and self.is_ahead(one, other)

    def is_ahead(self, one, other):
        return self.places[one] < self.places[other]

    def are_unsorted(self, one, other):
        return self.is_ahead(one, other) and not self.text_of(one) < self.text_of(other)

    def are_strangers(self, one, other, k):
        return one[:k + 1] != other[:k + 1] and self.text_of(other).startswith(self.head(one, k))

    def is_mistaken(self, row):
        return self.greedily(self.text_of(row)) != row

    def least_alike(self):
        seen = {}
        for row, text in zip(self.rows, self.texts):
            seen.setdefault(text, []).append(row)
        return min([len(text) for text, rows in seen.items() if len(rows) > 1], default=None)

    def least_unsorted(self):
        return min([len(one) + len(other) for one, other in combinations(self.texts, 2) if not one < other],
                   default=None)

    def least_strangers(self, k):
        cases = [(row[:k + 1], text, self.head(row, k)) for row, text in zip(self.rows, self.texts)]
        return min([len(text) + len(other) for (values, text, head), (others, other, _) in permutations(cases, 2)
                    if values != others and other.startswith(head)], default=None)

    def least_mistaken(self):
        return min([len(text) for row, text in zip(self.rows, self.texts) if self.greedily(text) != row],
                   default=None)


def some_field(random, with_marked=True):
    kind = random.randrange(7 if with_marked else 6)
    least = random.randrange(3)
    if kind == 0:
        return Word(random.choice(["a", "ab", "ba", "01", "a1", "b-"]), least, least + random.randrange(3))
    if kind == 1:
        least = random.choice([0, 1, 5, 8, 9, 10, 11, 95, 98, 99])
        return Number(least, least + random.choice([0, 1, 2, 3, 5, 12]))
    if kind == 2:
        return Fixed(1)
    if kind == 5:
        signs = random.choice(["a", "ab", "1", "01"])
        sign = random.choice([sign for sign in "ab01-." if sign not in signs])
        return Ended(signs, sign, least, least + random.randrange(3))
    if kind == 6:
        return some_marked(random)
    pool = ["", "a", "b", "ab", "ba", "aa", "bb", "aab", "aba", "1", "0", "10", "01", "b1", "1a", "abab", "bbb"]
    return Listed(random.sample(pool, random.randrange(1, 6)))


def some_marked(random):
    while True:
        none, mark = random.sample("ab01-NZ", 2)
        try:
            return Marked(none, mark, some_field(random, False))
        except BadField:
            pass


def some_layout(random, most_fields, most_rows):
    """A layout of up to this many fields, with up to this many rows."""
    while True:
        fields = [some_field(random) for _ in range(random.randrange(1, most_fields + 1))]
        many = 1
        for field in fields:
            many *= len(values_of(field))
        if many <= most_rows:
            return Layout(fields, [random.choice(["", "", "", "!", "~"]) for _ in fields[1:]])


def small_layouts():
    """Layouts of two fields that come apart in all ways, with each joint, and some of one field or three."""
    fields = [
        Word("ab", 0, 2), Word("a", 1, 3), Number(0, 12), Number(98, 101), Fixed(1), Listed([""]),
        Listed(["a", ""]), Listed(["ab", "a", "b"]), Listed(["a", "b", "ba"]), Listed(["b", "bbb"]),
        Listed(["1", "10", "0"]), Ended("ab", "c", 0, 2), Ended("bc", "a", 0, 2), Ended("1", "0", 0, 2),
        Marked("N", "m", Listed(["b", "", "ba"])), Marked("b", "a", Word("c", 0, 2)), Marked("N", "M", Number(5, 11)),
    ]
    found = [Layout([field], []) for field in fields]
    found += [Layout([one, other], [joint]) for one in fields for other in fields for joint in ("", "!", "~")
              if len(values_of(one)) * len(values_of(other)) <= 70]
    short = [Listed(["a", "ab"]), Listed(["b", ""]), Listed(["ba", "b"]), Listed(["c"])]
    found += [Layout(three, [first, second]) for three in product(short, repeat=3)
              for first in ("", "!", "~") for second in ("", "!")]
    return found


def open_layouts():
    """Layouts with fields without a greatest length or number, whose answers are short."""
    word, number = Word("ab", 0, None), Number(0, None)
    return [
        Layout([word], []), Layout([number], []), Layout([Number(5, None)], []), Layout([Number(1, None), word], [""]),
        Layout([word, word], [""]), Layout([word, word], ["!"]), Layout([word, word], ["~"]),
        Layout([Number(1, None), Fixed(1)], [""]), Layout([Number(1, None), Fixed(1)], ["!"]),
        Layout([Ended("ab", "c", 0, None), word], [""]), Layout([Ended("bc", "a", 0, None), word], [""]),
        Layout([Ended("ab", "-", 1, None), Ended("ab", "-", 1, None)], [""]),
        Layout([Listed(["", "a"]), Word("ab", 1, None)], [""]), Layout([Listed(["a", ""]), word], ["!"]),
        Layout([Marked("N", "m", number), Listed(["1", "N"])], [""]), Layout([Marked("a", "b", Word("c", 1, None))], []),
        Layout([Marked("b", "a", Word("c", 1, None))], []), Layout([number, Listed(["a", "b"])], [""]),
        Layout([Word("a", 1, None), Listed(["a", "b"]), Word("b", 1, 2)], ["", ""]),
    ]
