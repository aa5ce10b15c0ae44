import unittest
from itertools import combinations, product

from jointkeys.errors import NoText
from jointkeys.fields import Ended, Fixed, Listed, Marked, Number, Word, value_of
from jointkeys.kinds import has_beginnings_first, is_whole, least_texts
from tests.helpers import SIGNS, with_all_values


def beginnings_first(texts):
    """[6] by its words; the texts stand in the order of their values."""
    return not any(early.startswith(late) for early, late in combinations(texts, 2))


def ends_in_texts(texts):
    """[6] by its words: each y + r is a text."""
    known = set(texts)
    for x in texts:
        for start in range(1, len(x) + 1):
            for end in range(start, len(x) + 1):
                if x[start:end] in known and x[start:] not in known:
                    return False
    return True


def shorter_first(texts):
    return sorted(texts, key=lambda text: (len(text), text))


class LeastTexts(unittest.TestCase):

    def test_small_fields(self):
        for field, values in with_all_values():
            texts = shorter_first([text for _, text in values])
            for count in (0, 1, 2, 3, 5, 9, 10, 11, len(texts) - 1, len(texts), len(texts) + 1, 5000):
                self.assertEqual(least_texts(field, count), texts[:count])

    def test_fields_without_a_greatest_length_begin_like_those_with_one(self):
        for least in range(3):
            for count in range(40):
                self.assertEqual(least_texts(Word("ba", least, None), count),
                                 least_texts(Word("ab", least, 9), count))
                self.assertEqual(least_texts(Ended("ba", "-", least, None), count),
                                 least_texts(Ended("ab", "-", least, 9), count))

    def test_order_of_signs_in_the_field_does_not_matter(self):
        self.assertEqual(least_texts(Word("b-a", 0, None), 6), ["", "-", "a", "b", "--", "-a"])

    def test_numbers(self):
        self.assertEqual(least_texts(Number(0, None), 3), ["0", "1", "2"])
        self.assertEqual(least_texts(Number(9, None), 3), ["9", "10", "11"])
        self.assertEqual(least_texts(Number(99, 101), 9), ["99", "100", "101"])
        self.assertEqual(least_texts(Number(10 ** 9 - 1, None), 2), ["999999999", "1000000000"])
        self.assertEqual(least_texts(Number(7, 7), 2), ["7"])

    def test_marked(self):
        self.assertEqual(least_texts(Marked("N", "m", Word("ab", 0, None)), 4), ["N", "m", "ma", "mb"])
        self.assertEqual(least_texts(Marked("m", "N", Word("ab", 0, None)), 4), ["N", "m", "Na", "Nb"])
        self.assertEqual(least_texts(Marked("m", "N", Word("ab", 0, None)), 1), ["N"])
        self.assertEqual(least_texts(Marked("m", "N", Number(9, None)), 3), ["m", "N9", "N10"])

    def test_no_text(self):
        for field, _ in with_all_values():
            self.assertEqual(least_texts(field, 0), [])

    def test_large_fields(self):
        self.assertEqual(least_texts(Fixed(20), 2), ["0" * 20, "0" * 19 + "1"])
        self.assertEqual(least_texts(Word(SIGNS, 12, 12), 2), ["-" * 12, "-" * 11 + "."])
        self.assertEqual(least_texts(Word(SIGNS, 12, None), 67)[-1], "-" * 10 + ".-")
        self.assertEqual(least_texts(Number(0, 10 ** 9 - 1), 1001)[-1], "1000")
        self.assertEqual(least_texts(Word("a", 0, None), 1000)[-1], "a" * 999)
        self.assertEqual(len(least_texts(Word(SIGNS, 0, None), 10000)), 10000)
        self.assertEqual(least_texts(Word("ab", 0, 0), 10 ** 9), [""])
        self.assertEqual(least_texts(Listed(["b", "a"]), 10 ** 9), ["a", "b"])
        self.assertEqual(len(least_texts(Fixed(2), 10 ** 9)), 100)

    def test_the_list_is_new(self):
        for field, values in with_all_values()[::7]:
            first = least_texts(field, 3)
            kept = list(first)
            first.append("x")
            first[0] = "y"
            self.assertEqual(least_texts(field, 3), kept)
            self.assertIsInstance(first, list)
            self.assertEqual([text for text in kept if text not in dict(values).values()], [])
        field = Listed(["b", "a"])
        self.assertEqual((least_texts(field, 2), field.texts), (["a", "b"], ("b", "a")))

    def test_they_are_texts(self):
        for field in (Marked("N", "m", Ended("ab", "-", 1, None)), Number(98, None), Word("xy", 3, None)):
            for text in least_texts(field, 50):
                try:
                    value_of(field, text)
                except NoText:
                    self.fail(text)

    def test_by_name(self):
        self.assertEqual(least_texts(count=1, field=Fixed(1)), ["0"])
        self.assertIs(has_beginnings_first(field=Fixed(1)), True)
        self.assertIs(is_whole(field=Fixed(1)), True)


class Wholeness(unittest.TestCase):

    def test_small_fields_by_the_words_of_the_document(self):
        for field, values in with_all_values():
            texts = [text for _, text in values]
            first = beginnings_first(texts)
            self.assertIs(has_beginnings_first(field), first, texts[:9])
            self.assertIs(is_whole(field), first and ends_in_texts(texts), texts[:9])

    def test_all_short_lists(self):
        pool = ["", "a", "b", "aa", "ab", "ba", "aba"]
        for length in (1, 2, 3, 4):
            for texts in product(pool, repeat=length):
                if len(set(texts)) == length:
                    field = Listed(texts)
                    first = beginnings_first(texts)
                    self.assertIs(has_beginnings_first(field), first, texts)
                    self.assertIs(is_whole(field), first and ends_in_texts(texts), texts)
                    self.assertIs(has_beginnings_first(Marked("N", "m", field)), first, texts)
                    self.assertIs(is_whole(Marked("N", "m", field)), first, texts)

    def test_numbers_from_0_to_100_or_beyond_are_not_whole(self):
        for most in (100, 101, 999, 10 ** 9 - 1, None):
            self.assertIs(is_whole(Number(0, most)), False)
            self.assertIs(is_whole(Number(1, most)), True)
            self.assertIs(is_whole(Number(100, most)), True)
            self.assertIs(is_whole(Marked("N", "m", Number(0, most))), True)
            self.assertIs(has_beginnings_first(Number(0, most)), True)
        for most in (0, 9, 10, 98, 99):
            self.assertIs(is_whole(Number(0, most)), True)

    def test_large_fields(self):
        for field in (Word(SIGNS, 0, None), Word(SIGNS, 12, 12), Fixed(20), Ended(SIGNS[1:], "-", 0, None),
                      Marked("N", "m", Fixed(20)), Number(10 ** 9 - 1, None)):
            self.assertIs(has_beginnings_first(field), True)
            self.assertIs(is_whole(field), True)

    def test_long_lists(self):
        texts = ["a" * length for length in range(1, 13)]
        self.assertIs(is_whole(Listed(texts)), True)
        self.assertIs(is_whole(Listed(texts[::-1])), False)
        self.assertIs(has_beginnings_first(Listed(texts[::-1])), False)
        self.assertIs(is_whole(Listed(texts[:5] + texts[6:])), False)
        self.assertIs(has_beginnings_first(Listed(texts[:5] + texts[6:])), True)
        self.assertIs(is_whole(Listed(texts[5:])), True)

    def test_empty_texts(self):
        self.assertIs(is_whole(Listed([""])), True)
        self.assertIs(is_whole(Listed(["", "a"])), True)
        self.assertIs(is_whole(Listed(["a", ""])), False)
        self.assertIs(is_whole(Listed(["", "ab"])), False)
        self.assertIs(is_whole(Listed(["", "b", "ab"])), True)


if __name__ == "__main__":
    unittest.main()
