"""The examples of the document, for the files that are here."""

import unittest

from jointkeys.errors import BadField, NoText
from jointkeys.fields import Fixed, Listed, Marked, Number, Word, is_before, text_of, value_of
from jointkeys.kinds import is_whole, least_texts


class Examples(unittest.TestCase):

    def test_text_of_fixed(self):
        self.assertEqual(text_of(Fixed(3), 7), "007")

    def test_value_of_number(self):
        with self.assertRaises(NoText) as caught:
            value_of(Number(0, None), "007")
        self.assertEqual(caught.exception.text, "007")

    def test_text_of_marked(self):
        self.assertEqual(text_of(Marked("1", "2", Number(5, 9)), 7), "27")

    def test_bad_word(self):
        with self.assertRaises(BadField) as caught:
            Word("a!", 0, 2)
        self.assertEqual(caught.exception.what, "signs")

    def test_is_before_of_listed(self):
        self.assertIs(is_before(Listed(["b", "a"]), "b", "a"), True)

    def test_least_texts_of_marked(self):
        self.assertEqual(least_texts(Marked("N", "m", Word("ab", 0, None)), 4), ["N", "m", "ma", "mb"])

    def test_is_whole(self):
        answers = (is_whole(Word("ab", 0, 2)), is_whole(Listed(["b", "bbb"])), is_whole(Number(0, 100)))
        self.assertEqual(answers, (True, False, False))


if __name__ == "__main__":
    unittest.main()
