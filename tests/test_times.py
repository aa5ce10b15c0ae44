"""[8] to [13]: many questions about layouts of eight fields take a short time.

Times are measured against those of a plain loop on the same machine, so that a
slow machine has the room that it needs.
"""

import unittest
from random import Random
from time import perf_counter

from jointkeys.fields import Ended, Fixed, Listed, Marked, Number, Word
from jointkeys.keeping import alike_rows, mistaken_row, strangers, unsorted_rows
from jointkeys.layouts import Layout, bare_layout, is_ahead, row_text
from jointkeys.reading import count_ways, read_greedily, rows_with
from tests.helpers import SIGNS
from tests.test_keeping_large import large_field


def mixed_layout():
    texts = ["", "a", "b", "ab", "aba", "0", "00", "a0", "abc", "10", "010", "bb"]
    return Layout([Word("ab", 0, None), Number(0, 10 ** 8), Listed(texts), Fixed(4), Ended("01", "c", 1, 12),
                   Marked("N", "M", Word("ab", 2, 12)), Number(99, None), Listed(["bb", "010", "", "abc"])],
                  ["", "!", "", "", "~", "", ""])


def numbers_layout():
    return bare_layout([Number(1, 100000001), Word("abc", 2, 12), Number(99, 100000099), Fixed(20),
                        Marked("N", "M", Number(123, 100000123)), Listed(["", "a", "ab", "b", "ba", "abababababab"]),
                        Number(0, 100000000), Word("19", 2, 12)])


def plain_loop():
    total = 0
    for number in range(100000):
        total += number
    return total


def seconds_of(call):
    """The shortest of three times, which is the least disturbed one."""
    times = []
    for _ in range(3):
        start = perf_counter()
        call()
        times.append(perf_counter() - start)
    return min(times)


class Times(unittest.TestCase):

    def within(self, loops, call):
        """A call takes no longer than this many plain loops do."""
        for _ in range(3):
            if seconds_of(call) < loops * seconds_of(plain_loop):
                return
        self.assertLess(seconds_of(call), loops * seconds_of(plain_loop))

    def test_short_texts(self):
        layout = mixed_layout()
        row = ("ab", 12, "aba", 7, "01", "ab", 100, "010")
        text = row_text(layout, row)
        self.assertEqual(text, "ab12!aba000701c~Mab100010")
        self.assertIn(row, rows_with(layout, text))
        self.within(30, lambda: [count_ways(layout, "?") for _ in range(400)])
        self.within(30, lambda: [count_ways(layout, text) for _ in range(400)])
        self.within(40, lambda: [rows_with(layout, text) for _ in range(400)])
        self.within(30, lambda: [read_greedily(layout, text) for _ in range(400)])

    def test_short_texts_of_many_layouts(self):
        random = Random(10)
        cases = []
        for layout in some_layouts(random, 60):
            row = [random.choice(field_values(field)) for field in layout.fields]
            text = row_text(layout, row)
            cases.append((layout, text))
            cases.append((layout, text[:-1] + "!"))
            cases.append((layout, "ab" * random.randrange(1, 15)))

        def ask():
            for layout, text in cases:
                if count_ways(layout, text) <= 1000:
                    rows_with(layout, text)
                read_greedily(layout, text)

        self.within(100, ask)

    def test_long_texts(self):
        words = bare_layout([Word("ab", 0, None)] * 8)
        numbers = bare_layout([Number(1, None)] * 4 + [Fixed(20)] * 2 + [Number(0, 10 ** 8)] * 2)
        for layout, text in ((words, "ab" * 2000), (numbers, "1234567890" * 400)):
            self.within(30, lambda: count_ways(layout, text))
            self.within(10, lambda: read_greedily(layout, text))

    def ask_all(self, layout):
        found = [alike_rows(layout), unsorted_rows(layout), mistaken_row(layout)]
        return found + [strangers(layout, k) for k in range(len(layout.joints))]

    def test_what_two_layouts_keep(self):
        for layout in (mixed_layout(), numbers_layout()):
            for call in (alike_rows, unsorted_rows, mistaken_row):
                self.within(40, lambda: [call(layout) for _ in range(50)])
            for k in range(7):
                self.within(40, lambda: [strangers(layout, k) for _ in range(50)])

    def test_what_many_layouts_keep(self):
        layouts = some_layouts(Random(11), 48)

        def ask():
            for layout in layouts:
                for found in self.ask_all(layout)[:2]:
                    if found is not None:
                        is_ahead(layout, found.one, found.other)
                        read_greedily(layout, row_text(layout, found.one))

        self.within(250, ask)

    def test_answers_do_not_hang_on_what_was_asked_before(self):
        layouts = some_layouts(Random(12), 12)
        text = "ab01" * 5
        first = [(self.ask_all(layout), count_ways(layout, text), read_greedily(layout, text)) for layout in layouts]
        for layout in some_layouts(Random(13), 12):
            self.ask_all(layout)
        for layout, expected in reversed(list(zip(layouts, first))):
            again = Layout(list(layout.fields), list(layout.joints))
            for each in (layout, again):
                self.assertEqual((count_ways(each, text), read_greedily(each, text)), expected[1:])
                self.assertEqual(self.ask_all(each), expected[0])
            self.assertEqual(layout, again)
            self.assertEqual(sorted(vars(layout)), ["fields", "joints"])


def some_layouts(random, many):
    """Layouts of eight fields, of all kinds and sizes."""
    found = []
    for _ in range(many):
        signs = random.choice(["ab", "01", "0123456789", "a0", SIGNS[1:], "abc"])
        fields = [large_field(random, signs) for _ in range(8)]
        found.append(Layout(fields, [random.choice(["", "", "", "!", "~"]) for _ in range(7)]))
    return found


def field_values(field):
    if isinstance(field, Marked):
        return [None] + field_values(field.field)
    if isinstance(field, Listed):
        return list(field.texts)
    if isinstance(field, Number):
        return [field.least, field.least + 1]
    if isinstance(field, Fixed):
        return [0, 7]
    return [field.signs[:1] * field.least, field.signs[-1:] * field.least]


if __name__ == "__main__":
    unittest.main()
