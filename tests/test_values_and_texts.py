import unittest

from jointkeys.errors import NoText, NoValue
from jointkeys.fields import Ended, Fixed, Listed, Marked, Number, Word, is_before, text_of, value_of
from jointkeys.signs import HIGH, LOW
from jointkeys.signs import SIGNS as OWN_SIGNS
from tests.helpers import (SIGNS, neither_text_nor_number, own_things, some_fields, with_all_values,
                           words)

# One field of each kind, with things that are strings or numbers, but none of its values.
NO_VALUES = [
    (Word("ab", 1, 3), ["", "abab", "c", "ac", "ca", "a ", "A", "a!", "\u00e4", 0, 1, None]),
    (Word("ab", 0, 0), ["a", " ", 0, None]),
    (Word("ab", 0, None), ["c", "ab" * 2000 + "c", "c" + "ab" * 2000, 0, None]),
    (Number(5, 12), [4, 13, -5, 0, 10 ** 1000, "5", "", None]),
    (Number(0, None), [-1, -10 ** 1000, "0", "", None]),
    (Number(10 ** 9 - 1, None), [10 ** 9 - 2, 0, None]),
    (Fixed(2), [-1, 100, 10 ** 1000, "07", "7", "", None]),
    (Fixed(20), [-1, 10 ** 20, "0" * 20, None]),
    (Listed(["a", "bc"]), ["", "b", "c", "abc", "abcbc", 0, 1, None]),
    (Ended("ab", ".", 1, 3), ["", "a.", ".", "abab", "c", 0, None]),
    (Ended("ab", ".", 0, None), ["ab" * 2000 + ".", "c", None]),
    (Marked("N", "m", Number(5, 12)), ["N", "m5", "", "5", 4, 13, 10 ** 1000]),
    (Marked("N", "m", Listed(["a", "bc"])), ["N", "ma", "b", "", 0]),
    (Marked("1", "2", Word("ab", 1, None)), ["", "1", "2", "2a", 1]),
]

# One field of each kind, with strings that are none of its texts.
NO_TEXTS = [
    (Word("ab", 1, 3), ["", "abab", "c", "ac", "ca", "a ", " a", "a\n", "A"]),
    (Word("ab", 0, None), ["c", "ab" * 1999 + "c", "c" + "ab" * 1999]),
    (Number(5, 12), ["4", "13", "", "05", "005", "-5", "+5", " 5", "5 ", "5\n", "5.0", "1_0", "a", "0"]),
    (Number(0, None), ["", "00", "01", "007", "-0", "-1", "+1", "1_0", "1e3", "0x1", "\u0663", "\u00b2"]),
    (Number(0, None), ["0" + "1" * 999, "1" * 1000 + "a", "a" + "1" * 1000]),
    (Number(0, 0), ["1", "00", ""]),
    (Number(10, 99), ["9", "100", "09", "010"]),
    (Number(9, 100), ["8", "101", "1000"]),
    (Fixed(2), ["7", "007", "", "a7", "-7", "+7", " 7", "7 ", "\u0660\u0661", "\u00b2\u00b2", "1_"]),
    (Fixed(20), ["0" * 19, "0" * 21, "0" * 19 + "a"]),
    (Listed(["a", "bc"]), ["", "b", "c", "abc", "A"]),
    (Ended("ab", ".", 1, 3), ["", ".", "a", "abab.", "c.", "a..", ".a", "a.a", "a/"]),
    (Ended("ab", ".", 0, 0), ["", "a.", ".."]),
    (Marked("N", "m", Number(5, 12)), ["", "m", "5", "m4", "m13", "m05", "N5", "NN", "mN", "mm5", "n"]),
    (Marked("N", "m", Listed(["", "a"])), ["", "a", "mm", "Nm", "maa", "Na"]),
]


class ValuesAndTexts(unittest.TestCase):

    def test_all_values_of_small_fields(self):
        for field, values in with_all_values():
            self.assertEqual([text_of(field, value) for value, _ in values], [text for _, text in values])
            back = [value_of(field, text) for _, text in values]
            self.assertEqual(back, [value for value, _ in values])

    def test_order_of_small_fields(self):
        for field, values in with_all_values():
            # Far and near pairs are enough where there are many values.
            some = values if len(values) < 40 else values[:12] + values[-12:]
            for here, (one, _) in enumerate(some):
                for there, (other, _) in enumerate(some):
                    self.assertIs(is_before(field, one, other), here < there)

    def test_only_texts_have_values(self):
        strings = words("ab.N", 0, 4) + words("01m", 0, 4)
        for field, values in with_all_values():
            texts = {text for _, text in values}
            if len(texts) < 40:
                for text in strings:
                    if text not in texts:
                        self.refused_text(field, text)

    def refused_text(self, field, text):
        with self.assertRaises(NoText) as caught:
            value_of(field, text)
        self.assertIs(caught.exception.text, text, (field, text))

    def refused_value(self, field, thing):
        """A thing is no value for text_of, nor on either side of is_before."""
        fine = value_of(field, self.some_text(field))
        calls = [lambda: text_of(field, thing), lambda: is_before(field, thing, fine),
                 lambda: is_before(field, fine, thing), lambda: is_before(field, thing, [])]
        for call in calls:
            with self.assertRaises(NoValue) as caught:
                call()
            self.assertIs(caught.exception.value, thing, (field, thing))

    def some_text(self, field):
        for text in ("N", "1", "5", "10", "00", "a", "", ".", "a.", "0" * 20, "9" * 9):
            try:
                value_of(field, text)
                return text
            except NoText:
                pass
        raise AssertionError(field)

    def test_strings_and_numbers_that_are_no_values(self):
        for field, things in NO_VALUES:
            for thing in things:
                self.refused_value(field, thing)

    def test_things_that_are_no_values(self):
        for field, _ in NO_VALUES:
            for thing in neither_text_nor_number():
                self.refused_value(field, thing)

    def test_strings_that_are_no_texts(self):
        for field, texts in NO_TEXTS:
            for text in texts:
                self.refused_text(field, text)

    def test_things_that_are_no_texts(self):
        for field, _ in NO_TEXTS:
            for thing in neither_text_nor_number() + [None, 0, 5, 7, -1]:
                self.refused_text(field, thing)

    def test_true_and_false_are_no_numbers(self):
        for field in (Number(0, None), Number(0, 1), Fixed(1), Marked("N", "m", Number(0, 1))):
            self.refused_value(field, True)
            self.refused_value(field, False)
            self.assertEqual(text_of(field, 1)[-1], "1")

    def test_first_that_is_none_is_told(self):
        field = Number(0, 5)
        for one, other, wrong in ((6, 7, 6), (7, 6, 7), (1, 6, 6), (6, 1, 6), ([], "a", [])):
            with self.assertRaises(NoValue) as caught:
                is_before(field, one, other)
            self.assertEqual(caught.exception.value, wrong)

    def test_marked_errors_tell_the_whole(self):
        field = Marked("N", "m", Number(5, 12))
        with self.assertRaises(NoText) as caught:
            value_of(field, "m4")
        self.assertEqual(caught.exception.text, "m4")
        with self.assertRaises(NoValue) as caught:
            text_of(field, 4)
        self.assertEqual(caught.exception.value, 4)

    def test_none_is_before_all_others(self):
        for field, value in ((Marked("z", "a", Listed(["c", "b"])), "c"), (Marked("N", "m", Number(0, None)), 0)):
            self.assertIs(is_before(field, None, value), True)
            self.assertIs(is_before(field, value, None), False)
            self.assertIs(is_before(field, None, None), False)
        field = Marked("z", "a", Listed(["c", "b"]))
        self.assertIs(is_before(field, "c", "b"), True)
        self.assertIs(is_before(field, "b", "c"), False)

    def test_order_is_of_values_not_of_texts(self):
        self.assertIs(is_before(Number(0, None), 9, 10), True)
        self.assertIs(is_before(Number(0, None), 10, 9), False)
        # As texts, "a.z" stands before "az".
        self.assertIs(is_before(Ended("a.", "z", 0, None), "a", "a."), True)
        self.assertIs(is_before(Ended("ab", "-", 0, None), "a", "ab"), True)
        self.assertIs(is_before(Word("ba", 0, None), "a", "b"), True)
        self.assertIs(is_before(Word("ab", 0, None), "ab", "b"), True)
        self.assertIs(is_before(Listed(["b", "a"]), "b", "a"), True)

    def test_large_values_and_texts(self):
        for digits in ("1" + "0" * 999, "9" * 1000, "1234567890" * 100, "7" * 64, "1" + "0" * 64, "9" * 65):
            number = 0
            for digit in digits:
                number = number * 10 + int(digit)
            self.assertEqual(text_of(Number(0, None), number), digits)
            self.assertEqual(value_of(Number(0, None), digits), number)
            self.assertEqual(text_of(Marked("N", "m", Number(5, None)), number), "m" + digits)
            self.assertEqual(value_of(Marked("N", "m", Number(5, None)), "m" + digits), number)
            self.assertIs(is_before(Number(0, None), number - 1, number), True)
        long = "ab" * 2000
        self.assertEqual(value_of(Word("ab", 0, None), long), long)
        self.assertEqual(text_of(Ended("ab", "-", 0, None), long), long + "-")
        self.assertEqual(value_of(Ended("ab", "-", 0, None), long + "-"), long)
        self.assertEqual(len(text_of(Number(0, None), value_of(Number(0, None), "8" * 5000))), 5000)

    def test_large_ranges_without_going_through_them(self):
        field = Number(1, 10 ** 9 - 1)
        self.assertEqual(value_of(field, text_of(field, 123456789)), 123456789)
        self.assertEqual(text_of(Fixed(20), 10 ** 20 - 1), "9" * 20)
        self.assertEqual(text_of(Fixed(20), 0), "0" * 20)
        self.assertEqual(value_of(Fixed(20), "0" * 19 + "1"), 1)
        self.assertEqual(value_of(Word(SIGNS, 12, 12), "zyxwvutsrqpo"), "zyxwvutsrqpo")

    def test_by_name(self):
        field = Number(0, None)
        self.assertEqual(text_of(value=5, field=field), "5")
        self.assertEqual(value_of(text="5", field=field), 5)
        self.assertIs(is_before(other=6, one=5, field=field), True)

    def test_same_again(self):
        for field in some_fields():
            text = self.some_text(field)
            first = value_of(field, text)
            self.assertEqual([value_of(field, text), text_of(field, first)], [first, text])
            self.assertIs(is_before(field, first, first), False)

    def test_things_are_not_changed(self):
        thing = ["a", ["b"]]
        for field in some_fields():
            self.refused_value(field, thing)
            self.refused_text(field, thing)
        self.assertEqual(thing, ["a", ["b"]])
        self.assertEqual(own_things()[:6], some_fields())


class Signs(unittest.TestCase):

    def test_low_and_high(self):
        self.assertEqual((LOW, HIGH), ("!", "~"))
        self.assertTrue(all(LOW < sign < HIGH for sign in SIGNS))
        self.assertEqual(OWN_SIGNS, SIGNS)
        self.assertEqual("".join(sorted(SIGNS)), SIGNS)
        self.assertEqual(len(SIGNS), 3 + 10 + 26 + 1 + 26)

    def test_words_stand_in_the_order_of_signs(self):
        field = Word(SIGNS, 1, 1)
        for one, other in zip(SIGNS, SIGNS[1:]):
            self.assertIs(is_before(field, one, other), True)


if __name__ == "__main__":
    unittest.main()
