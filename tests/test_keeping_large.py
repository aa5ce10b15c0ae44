"""[13]: all four answers without going through values, at once, for up to eight large fields."""

import unittest
from random import Random
from time import perf_counter

from jointkeys.errors import BadField
from jointkeys.fields import Ended, Fixed, Listed, Marked, Number, Word
from jointkeys.keeping import alike_rows, mistaken_row, strangers, unsorted_rows
from jointkeys.layouts import Layout, bare_layout, is_ahead, row_text
from jointkeys.reading import count_ways, read_greedily
from tests.helpers import SIGNS

# They take some hundredths of a second; whoever goes through values takes longer than anybody waits.
MOST_SECONDS = 5


def large_field(random, signs):
    kind = random.randrange(8)
    least = random.choice([0, 1, 12])
    if kind == 0:
        return Word(random.choice([signs, signs[:1], SIGNS]), least, random.choice([12, None]))
    if kind == 1:
        return Number(random.choice([0, 1, 10, 99999, 123456789]), random.choice([None, 10 ** 9 - 1, 987654321]))
    if kind == 2:
        return Fixed(random.choice([1, 19, 20]))
    if kind == 3:
        return Ended(signs, "-", least, random.choice([12, None]))
    if kind == 4:
        try:
            return Marked("N", "m", large_field(random, signs))
        except BadField:
            return Fixed(20)
    texts = {"".join(random.choice(signs) for _ in range(random.choice([3, 6, 9, 11, 12, 12]))) for _ in range(12)}
    texts = sorted(texts)
    random.shuffle(texts)
    return Listed(texts)


class LargeLayouts(unittest.TestCase):

    def at_once(self, call, *given):
        start = perf_counter()
        answer = call(*given)
        self.assertLess(perf_counter() - start, MOST_SECONDS)
        return answer

    def check(self, layout):
        """The answers show what they should; returns them."""
        alike = self.at_once(alike_rows, layout)
        if alike is not None:
            text = row_text(layout, alike.one)
            self.assertEqual(row_text(layout, alike.other), text)
            self.assertIs(is_ahead(layout, alike.one, alike.other), True)
            self.assertGreater(count_ways(layout, text), 1)
        unsorted = self.at_once(unsorted_rows, layout)
        if unsorted is not None:
            self.assertIs(is_ahead(layout, unsorted.one, unsorted.other), True)
            self.assertFalse(row_text(layout, unsorted.one) < row_text(layout, unsorted.other))
        strange = [self.at_once(strangers, layout, k) for k in range(len(layout.joints))]
        for k, pair in enumerate(strange):
            if pair is not None:
                self.assertNotEqual(pair.one[:k + 1], pair.other[:k + 1])
                head = Layout(layout.fields[:k + 1], layout.joints[:k])
                self.assertTrue(row_text(layout, pair.other).startswith(row_text(head, pair.one[:k + 1])
                                                                        + layout.joints[k]))
        mistaken = self.at_once(mistaken_row, layout)
        if mistaken is not None:
            self.assertNotEqual(read_greedily(layout, row_text(layout, mistaken)), mistaken)
        return alike, unsorted, strange, mistaken

    def nothing(self, layout):
        self.assertEqual(self.check(layout), (None, None, [None] * len(layout.joints), None))

    def lengths(self, layout):
        """How many characters the answers have."""
        alike, unsorted, strange, mistaken = self.check(layout)
        both = [0 if pair is None else len(row_text(layout, pair.one) + row_text(layout, pair.other))
                for pair in [alike, unsorted] + strange]
        return both + [0 if mistaken is None else len(row_text(layout, mistaken))]

    def test_layouts_that_keep_everything(self):
        self.nothing(bare_layout([Fixed(20)] * 8))
        self.nothing(Layout([Fixed(20)] * 8, ["!", "~", "", "!", "~", "", "!"]))
        self.nothing(Layout([Word(SIGNS, 0, None)] * 8, ["!"] * 7))
        self.nothing(bare_layout([Word(SIGNS, 12, 12)] * 8))
        self.nothing(bare_layout([Number(10 ** 8, 10 ** 9 - 1)] * 8))
        self.nothing(bare_layout([Marked("A", "B", Fixed(20))] * 7 + [Word(SIGNS, 0, None)]))
        self.nothing(bare_layout([Ended(SIGNS[1:], "-", 0, None)] * 8))
        self.nothing(Layout([Fixed(20)], []))
        self.nothing(Layout([Word(SIGNS, 0, None)], []))

    def test_words_and_numbers_of_any_length(self):
        # The lengths are those of the two alike rows, the unsorted ones, the strangers at each joint,
        # and the mistaken row; for instance one sign, read by the first word or by the second one.
        self.assertEqual(self.lengths(bare_layout([Word(SIGNS, 0, None)] * 8)), [2, 2] + [1] * 7 + [1])
        self.assertEqual(self.lengths(Layout([Word(SIGNS, 0, None)] * 8, ["~"] * 7)), [0, 15] + [0] * 7 + [0])
        self.assertEqual(self.lengths(Layout([Number(0, None)] * 8, ["!"] * 7)), [0, 31] + [0] * 7 + [0])
        self.assertEqual(self.lengths(bare_layout([Fixed(20)] * 7 + [Number(0, None)])), [0, 283] + [0] * 7 + [0])
        self.assertEqual(self.lengths(bare_layout([Word(SIGNS, 12, None)] * 8)), [194, 193] + [193] * 7 + [96])

    def test_numbers_with_fixed_ones_behind(self):
        layout = bare_layout([Number(0, None), Fixed(20)])
        self.assertEqual(self.lengths(layout), [0, 43, 43, 21])
        layout = bare_layout([Number(1, 10 ** 9 - 1), Fixed(1), Number(5, None)])
        self.assertEqual(self.lengths(layout), [8, 7, 7, 7, 3])
        layout = Layout([Number(10 ** 9 - 1, None), Fixed(20), Number(10 ** 9 - 1, None)], ["", "!"])
        self.assertEqual(self.lengths(layout), [0, 79, 79, 0, 39])

    def test_random_layouts(self):
        random = Random(8)
        for _ in range(60):
            signs = random.choice(["ab", "01", "0123456789", "a0", SIGNS[1:], "abc"])
            fields = [large_field(random, signs) for _ in range(8)]
            joints = [random.choice(["", "", "", "!", "~"]) for _ in range(7)]
            self.check(Layout(fields, random.choice([[""] * 7, joints])))

    def test_listed_texts_of_full_length(self):
        one = ["ab" * 6, "ab" * 5 + "a", "b" + "ab" * 5, "ba", "a" * 12, "b" * 12, "ab" * 4, "ba" * 5, "abab", "babab",
               "a" * 11, "aab"]
        self.assertEqual(self.lengths(bare_layout([Listed(one)] * 7 + [Listed(["c"])]))[0] % 2, 0)
        lengths = [Listed(["a" * length for length in range(1, 13)])]
        self.assertEqual(self.lengths(bare_layout(lengths * 8)), [18, 18] + [17] * 7 + [8])
        self.nothing(bare_layout([Listed(["a" * 12]), Listed(["b" * 12])] * 4))
        # Only the last field tells of two rows which one is which.
        layout = bare_layout([Listed(["a" * 12, "a" * 11])] + [Listed(["a" * 12])] * 6 + [Listed(["b"])])
        self.assertEqual(self.lengths(layout), [0, 0] + [169] * 7 + [84])


if __name__ == "__main__":
    unittest.main()
