import unittest
from itertools import product
from random import Random
from time import perf_counter

from jointkeys.commons import common_text
from jointkeys.fields import Ended, Fixed, Listed, Marked, Number, Word
from jointkeys.kinds import least_texts
from jointkeys.layouts import Layout, bare_layout
from jointkeys.reading import count_ways
from tests.helpers import SIGNS, some_fields, with_all_values
from tests.rowsearch import Rows, open_layouts, small_layouts, some_layout
from tests.test_keeping_large import large_field

WORDS = Word("ab", 0, None)
MOST_SECONDS = 5


def least_common(one, other):
    return min(set(one) & set(other), key=lambda text: (len(text), text), default=None)


class AgainstAllTexts(unittest.TestCase):

    def check(self, layout, texts, other, other_texts):
        expected = least_common(texts, other_texts)
        self.assertEqual(common_text(layout, other), expected)
        self.assertEqual(common_text(other, layout), expected)
        return expected

    def test_small_layouts(self):
        random = Random(19)
        known = [(layout, Rows(layout).texts) for layout in small_layouts()]
        found = [self.check(*random.choice(known), *random.choice(known)) for _ in range(1500)]
        self.assertGreater(len(set(found)), 20)

    def test_mixed_layouts(self):
        random = Random(20)
        found = []
        for _ in range(300):
            one, other = some_layout(random, 4, 150), some_layout(random, 4, 150)
            found.append(self.check(one, Rows(one).texts, other, Rows(other).texts))
        self.assertGreater(len(set(found)), 4)

    def test_lists_with_much_in_common(self):
        random = Random(21)
        pool = ["a", "b", "ab", "ba", "aa", "bb", "aab", "bba", "abab", "babb", "abba"]
        found = []
        for _ in range(300):
            layouts = []
            for _ in range(2):
                fields = [Listed(random.sample(pool, random.randrange(2, 5))) for _ in range(random.randrange(2, 5))]
                layouts.append(Layout(fields, [random.choice(["", "", "", "!"]) for _ in fields[1:]]))
            one, other = layouts
            found.append(self.check(one, Rows(one).texts, other, Rows(other).texts))
        self.assertGreater(len(set(found)), 20)

    def test_fields_without_an_end(self):
        # Whether a text is one of a layout without an end is told by count_ways.
        random = Random(22)
        texts = ["".join(each) for length in range(4) for each in product("!-0123456789Nabcm~", repeat=length)]
        for layout in open_layouts():
            own = [text for text in texts if count_ways(layout, text) > 0]
            for other in open_layouts() + [random.choice(small_layouts()) for _ in range(4)]:
                found = common_text(layout, other)
                expected = next((text for text in own if count_ways(other, text) > 0), None)
                if expected is None:
                    self.assertTrue(found is None or len(found) > 3, found)
                else:
                    self.assertEqual(found, expected)
                if found is not None:
                    self.assertGreater(min(count_ways(layout, found), count_ways(other, found)), 0)


class TextsOfFields(unittest.TestCase):
    """Which texts a field has in common with a list of one text: just its own."""

    def check(self, field, texts, others):
        layout = bare_layout([field])
        for text in texts:
            self.assertEqual(common_text(layout, bare_layout([Listed([text])])), text)
        for text in others:
            if text not in texts:
                self.assertIs(common_text(layout, bare_layout([Listed([text])])), None, (vars(field), text))

    def nearby(self, random, texts):
        """Texts that differ in a sign, that are longer or shorter."""
        found = [""]
        for text in texts:
            for sign in random.sample("/019A_abcNm-", 3):
                at = random.randrange(len(text) + 1)
                found.extend([text[:at] + sign + text[at:], text[:at] + sign + text[at + 1:], text[:at] + text[at + 1:]])
        return found

    def test_small_fields(self):
        random = Random(24)
        for field, values in with_all_values():
            texts = [text for _, text in values]
            some = random.sample(texts, min(len(texts), 6)) + [texts[0], texts[-1]]
            wrong = set(self.nearby(random, some)) - set(texts)
            self.check(field, some, wrong)

    def test_fields_without_an_end(self):
        random = Random(25)
        for field in (Number(0, None), Number(1, None), Number(10, None), Number(95, None), Number(123, None),
                      Word("ab", 0, None), Word("a", 2, None), Ended("ab", "-", 1, None), Marked("N", "m", Number(7, None))):
            own = [text for text in self.nearby(random, least_texts(field, 60)) if field.has_text(text)]
            wrong = [text for text in self.nearby(random, own) if not field.has_text(text)]
            self.check(field, own + least_texts(field, 30), wrong)

    def test_large_numbers(self):
        random = Random(26)
        for _ in range(150):
            least, most = sorted(random.randrange(10 ** random.randrange(1, 10)) for _ in range(2))
            numbers = {least - 1, least, least + 1, most - 1, most, most + 1, random.randrange(least, most + 1)}
            numbers |= {random.randrange(10 ** random.randrange(1, 10)) for _ in range(6)}
            texts = [str(number) for number in numbers if least <= number <= most]
            self.check(Number(least, most), texts, [str(number) for number in numbers if number >= 0])


class Answers(unittest.TestCase):

    def test_example(self):
        one = Layout([Word("ab", 1, 2), Fixed(1)], [""])
        other = Layout([Listed(["a"]), Listed(["b0", "7"])], [""])
        self.assertEqual(common_text(one, other), "a7")

    def test_shortest_then_least(self):
        cases = [
            ([Listed(["b", "aa"])], [Listed(["aa", "b"])], "b"), ([Listed(["b", "a"])], [Listed(["a", "b"])], "a"),
            ([WORDS], [Word("bc", 0, None)], ""), ([Word("ab", 2, None)], [Word("bc", 1, 3)], "bb"),
            ([Number(0, None)], [Fixed(3)], "100"), ([Number(7, None), WORDS], [Fixed(2), WORDS], "10"),
            ([Fixed(2), Fixed(1)], [Fixed(1), Fixed(2)], "000"), ([Fixed(1)], [Fixed(2)], None),
            ([Marked("N", "m", Fixed(1))], [Ended("Nm", "0", 0, None)], "m0"), ([Marked("N", "m", WORDS)], [Word("N", 1, 2)], "N"),
            ([Number(95, 105)], [Fixed(3)], "100"), ([Number(95, 105)], [Listed(["103", "96", "98", "1"])], "96"),
            ([Ended("ab", "c", 1, None)], [WORDS, Listed(["c"])], "ac"), ([Ended("ab", "c", 1, None)], [WORDS], None),
            ([Listed(["z", "-", "a"])], [Word(SIGNS, 1, 12)], "-"), ([Word("a", 5, 12)], [Word("a", 12, None)], "a" * 12),
        ]
        for one, other, expected in cases:
            self.assertEqual(common_text(bare_layout(one), bare_layout(other)), expected)
            self.assertEqual(common_text(bare_layout(other), bare_layout(one)), expected)

    def test_separators(self):
        self.assertEqual(common_text(Layout([WORDS, WORDS], ["!"]), Layout([WORDS, WORDS], ["!"])), "!")
        self.assertIs(common_text(Layout([WORDS, WORDS], ["!"]), Layout([WORDS, WORDS], ["~"])), None)
        self.assertIs(common_text(Layout([WORDS, WORDS], ["!"]), bare_layout([WORDS, WORDS])), None)
        one = Layout([Fixed(1), WORDS, Listed(["b"])], ["!", "~"])
        other = Layout([Listed(["7", "70", "5"]), Word("ab", 2, None), WORDS], ["!", "~"])
        self.assertEqual(common_text(one, other), "5!aa~b")

    def test_same_layout(self):
        layout = Layout(some_fields(), ["", "!", "~", "", ""])
        self.assertEqual(common_text(layout, layout), "0!00~.N")
        self.assertEqual(common_text(other=layout, layout=layout), "0!00~.N")
        self.assertEqual(layout, Layout(some_fields(), ["", "!", "~", "", ""]))

    def test_long_texts(self):
        one = bare_layout([Listed(["a" * 11]), Listed(["a" * 11, "a" * 10])] + [Listed(["a" * 11, ""])] * 6)
        other = bare_layout([Listed(["a" * 12, ""])] * 7 + [Listed(["a" * 4])])
        lengths = {11 + second + 11 * more for second in (11, 10) for more in range(7)}
        expected = min(lengths & {12 * more + 4 for more in range(8)})
        self.assertEqual((common_text(one, other), expected), ("a" * 76, 76))
        # Each of the numbers has a digit that is not 0, wherever the others are.
        found = common_text(bare_layout([Fixed(20)] * 8), bare_layout([Number(1, None)] * 8))
        self.assertEqual(found, "1" + "0" * 152 + "1" * 7)

    def test_large_layouts_at_once(self):
        random = Random(23)
        for _ in range(150):
            signs = random.choice(["ab", "01", "0123456789", "a0", SIGNS[1:], "abc"])
            one, other = [bare_layout([large_field(random, signs) for _ in range(8)]) for _ in range(2)]
            start = perf_counter()
            found = common_text(one, other)
            self.assertLess(perf_counter() - start, MOST_SECONDS)
            if found is not None:
                self.assertGreater(min(count_ways(one, found), count_ways(other, found)), 0)
                self.assertEqual(common_text(other, one), found)


if __name__ == "__main__":
    unittest.main()
