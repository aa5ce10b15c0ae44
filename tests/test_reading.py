import unittest
from itertools import product
from math import comb
from random import Random

from jointkeys.errors import Large, NoText
from jointkeys.fields import Ended, Fixed, Listed, Marked, Number, Word
from jointkeys.layouts import Layout, bare_layout, row_text
from jointkeys.reading import count_ways, read_greedily, rows_with
from tests.helpers import SIGNS, neither_text_nor_number, some_fields, with_all_values
from tests.rowsearch import Rows, open_layouts, small_layouts, some_layout

WORDS = Word("ab", 0, None)


def odd_texts():
    return ["", "a", "b", "!", "~", "a!", "!a", "~~", "a!!b", "0", "00", "N", "m", " ", "\n", "\u00e4", "\u0661", "%",
            "a b", "ab" * 20, "0" * 30, "\ud800", "A", "{"]


class SmallLayouts(unittest.TestCase):

    def check(self, layout, known, text):
        expected = known.with_text(text)
        self.assertEqual(rows_with(layout, text), expected, text)
        self.assertEqual(count_ways(layout, text), len(expected), text)
        self.assertEqual(read_greedily(layout, text), known.greedily(text), text)

    def test_texts_of_rows(self):
        random = Random(1)
        for layout in small_layouts()[::3] + [some_layout(random, 4, 150) for _ in range(80)]:
            known = Rows(layout)
            for text in sorted(set(known.texts))[:25]:
                self.check(layout, known, text)

    def test_other_texts(self):
        random = Random(2)
        strings = odd_texts() + ["".join(each) for length in (2, 3) for each in product("ab1!", repeat=length)]
        for layout in small_layouts()[::20] + [some_layout(random, 3, 100) for _ in range(10)]:
            known = Rows(layout)
            for text in strings + [own + sign for own in known.texts[:5] for sign in "a!"]:
                self.check(layout, known, text)

    def test_fields_without_an_end(self):
        for layout in open_layouts():
            known = Rows(layout)
            for length in range(4):
                for text in map("".join, product("ab01!", repeat=length)):
                    self.check(layout, known, text)


class OneField(unittest.TestCase):
    """A field alone, and one with digits behind it, by its values."""

    def check(self, field, own, text):
        rows = [(own[text],)] if text in own else []
        layout = Layout([field], [])
        self.assertEqual(rows_with(layout, text), rows, (vars(field), text))
        self.assertEqual(count_ways(layout, text), len(rows), (vars(field), text))
        standing = [known for known in own if text.startswith(known)]
        longest = max(standing, key=len, default=None)
        expected = (own[text],) if longest == text else None
        self.assertEqual(read_greedily(layout, text), expected, (vars(field), text))
        more = bare_layout([field, Word("0123456789", 0, None)])
        rest = None if longest is None else text[len(longest):]
        expected = (own[longest], rest) if rest is not None and rest.strip("0123456789") == "" else None
        self.assertEqual(read_greedily(more, text), expected, (vars(field), text))
        self.assertEqual(count_ways(more, text), sum(text[len(known):].strip("0123456789") == "" for known in standing))

    def test_small_fields(self):
        random = Random(7)
        for field, values in with_all_values():
            own = {text: value for value, text in values}
            texts = random.sample(list(own), min(len(own), 4)) + [values[0][1], values[-1][1], ""]
            for text in list(texts):
                at = random.randrange(len(text) + 1)
                sign = random.choice("0129abcNmZ-.!")
                texts += [text[:at] + sign + text[at:], text[:at] + text[at + 1:], text[:at] + sign + text[at + 1:], text + "0"]
            for text in texts:
                self.check(field, own, text)

    def test_numbers_near_the_least_and_the_greatest(self):
        for least in (0, 1, 5, 9, 10, 95, 99, 100):
            for most in (5, 9, 10, 11, 99, 100, 120):
                if least <= most:
                    own = {str(number): number for number in range(least, most + 1)}
                    for number in {least - 1, least, least + 1, most - 1, most, most + 1, 10 * most, 10 * least}:
                        for text in (str(abs(number)), "0" + str(abs(number)), str(abs(number)) + "9"):
                            self.check(Number(least, most), own, text)


class AllRows(unittest.TestCase):

    def test_order_of_the_rows(self):
        layout = Layout([Listed(["", "ab", "a"]), Listed(["b", "", "ab"])], [""])
        self.assertEqual(rows_with(layout, "ab"), [("", "ab"), ("ab", ""), ("a", "b")])
        layout = Layout([Marked("N", "m", Listed(["aa", "", "a"])), WORDS], [""])
        self.assertEqual(rows_with(layout, "maa"), [("aa", ""), ("", "aa"), ("a", "a")])
        layout = Layout([Number(0, None), Number(0, None)], [""])
        self.assertEqual(rows_with(layout, "1201"), [(1, 201), (120, 1)])
        self.assertEqual(rows_with(layout, "1111"), [(1, 111), (11, 11), (111, 1)])

    def test_rows_are_tuples_in_a_new_list(self):
        layout = bare_layout([WORDS, WORDS])
        first = rows_with(layout, "ab")
        self.assertIsInstance(first, list)
        self.assertEqual({type(row) for row in first}, {tuple})
        first.append("x")
        first[0] = "y"
        again = rows_with(layout, "ab")
        self.assertEqual(again, [("", "ab"), ("a", "b"), ("ab", "")])
        self.assertEqual(rows_with(Layout((WORDS, WORDS), ("",)), "ab"), again)
        self.assertEqual(rows_with(layout, "c"), [])
        self.assertIsNot(rows_with(layout, "c"), rows_with(layout, "c"))

    def test_a_thousand_rows_and_one_more(self):
        layout = bare_layout([WORDS, WORDS])
        rows = rows_with(layout, "a" * 999)
        self.assertEqual(rows, [("a" * place, "a" * (999 - place)) for place in range(1000)])
        self.assertEqual(count_ways(layout, "a" * 999), 1000)
        self.refused_as_large(layout, "a" * 1000, 1001)
        layout = bare_layout([Listed(["a" * length for length in range(12)])] * 3)
        for length in range(34):
            many = count_ways(layout, "a" * length)
            self.assertEqual(many, len(rows_with(layout, "a" * length)))

    def test_a_thousand_rows_of_three_fields(self):
        # 10 times 10 times 10 ways, each field's end being fixed by the separator.
        two = [Listed(["a" * length for length in range(10)])] * 2
        layout = Layout(two * 3, ["", "!", "", "~", ""])
        text = "a" * 9 + "!" + "a" * 9 + "~" + "a" * 9
        rows = rows_with(layout, text)
        self.assertEqual((len(rows), len(set(rows))), (1000, 1000))
        self.assertEqual({row_text(layout, row) for row in rows}, {text})
        self.assertEqual(rows, sorted(rows))

    def refused_as_large(self, layout, text, count):
        with self.assertRaises(Large) as caught:
            rows_with(layout, text)
        self.assertEqual(caught.exception.count, count)

    def test_counts_far_beyond(self):
        for fields, length in ((2, 1000), (2, 3999), (3, 44), (3, 4000), (8, 100), (8, 4000)):
            layout = bare_layout([WORDS] * fields)
            text = ("ab" * 2000)[:length]
            many = comb(length + fields - 1, fields - 1)
            self.assertEqual(count_ways(layout, text), many)
            if many > 1000:
                self.refused_as_large(layout, text, many)
        self.assertEqual(comb(4007, 7), 3273614728212981381801)

    def test_long_texts(self):
        layout = Layout([WORDS, Number(0, None), Ended("ab", "-", 0, None)], ["!", ""])
        row = ("ab" * 500, 10 ** 1000 - 1, "b" * 1998)
        text = row_text(layout, row)
        self.assertEqual(len(text), 4000)
        self.assertEqual(rows_with(layout, text), [row])
        self.assertEqual((count_ways(layout, text), read_greedily(layout, text)), (1, row))
        self.assertEqual(count_ways(layout, text[:-1]), 0)
        layout = bare_layout([Word("a", 0, None), Word("ab", 0, None), Ended("a", "b", 0, None)])
        text = "a" * 500 + "b" * 3500
        rows = rows_with(layout, text)
        self.assertEqual(rows, [("a" * place, "a" * (500 - place) + "b" * 3499, "") for place in range(501)])
        layout = Layout([Number(0, None)] * 4, ["!"] * 3)
        self.assertEqual(rows_with(layout, "!".join(["9" * 999] * 4)), [(10 ** 999 - 1,) * 4])

    def test_long_numbers_are_parted(self):
        layout = bare_layout([Number(1, None), Number(1, None)])
        rows = rows_with(layout, "1" * 1000)
        self.assertEqual(len(rows), 999)
        self.assertEqual(rows[0], (1, (10 ** 999 - 1) // 9))
        self.assertEqual(rows[-1], ((10 ** 999 - 1) // 9, 1))
        self.assertEqual(count_ways(layout, "1" + "0" * 999), 0)
        self.assertEqual(count_ways(layout, "10" * 500), 499)
        layout = bare_layout([Number(10 ** 8, 10 ** 9 - 1), Number(0, None)])
        self.assertEqual(rows_with(layout, "1234567890"), [(123456789, 0)])
        self.assertEqual(rows_with(layout, "0123456789"), [])
        layout = bare_layout([Number(98765432, 123456789), Number(0, None)])
        self.assertEqual(rows_with(layout, "1234567890"), [(123456789, 0)])
        self.assertEqual(rows_with(layout, "12345679012"), [])
        self.assertEqual(rows_with(layout, "9876543212"), [(98765432, 12)])

    def test_eight_fields_with_all_separators(self):
        layout = Layout([Fixed(20), WORDS, Number(0, None), Listed(["a", ""]), Ended("ab", ".", 0, None),
                         Marked("N", "m", Number(0, None)), Word(SIGNS, 0, 12), Listed([""])],
                        ["", "!", "~", "", "!", "", "~"])
        row = (7, "ab", 0, "", "ba", None, "zz", "")
        text = row_text(layout, row)
        self.assertEqual(text, "0" * 19 + "7ab!0~ba.!Nzz~")
        self.assertEqual(rows_with(layout, text), [row])
        self.assertEqual(read_greedily(layout, text), row)
        for place in range(len(text)):
            shorter = text[:place] + text[place + 1:]
            self.assertEqual(len(rows_with(layout, shorter)), count_ways(layout, shorter))


class Greedily(unittest.TestCase):

    def test_the_longest_text_is_taken(self):
        layout = Layout([Listed(["a", "aba", "ab"]), Listed(["", "a", "b", "ba"])], [""])
        self.assertEqual(read_greedily(layout, "aba"), ("aba", ""))
        self.assertEqual(read_greedily(layout, "abb"), ("ab", "b"))
        self.assertEqual(read_greedily(layout, "aa"), ("a", "a"))
        layout = Layout([Listed(["a", "ab"]), Listed(["b", "c"])], [""])
        self.assertIs(read_greedily(layout, "ab"), None)
        self.assertEqual(read_greedily(layout, "abc"), ("ab", "c"))

    def test_a_longer_text_may_stand_behind_a_gap(self):
        layout = Layout([Listed(["a", "abbb"]), WORDS], [""])
        self.assertEqual(read_greedily(layout, "abb"), ("a", "bb"))
        self.assertEqual(read_greedily(layout, "abbba"), ("abbb", "a"))

    def test_an_empty_text_stands_everywhere(self):
        layout = Layout([Listed(["", "a"]), Listed(["", "b"])], ["!"])
        for text, row in (("!", ("", "")), ("a!", ("a", "")), ("!b", ("", "b")), ("a!b", ("a", "b"))):
            self.assertEqual(read_greedily(layout, text), row)
        for text in ("", "a", "ab", "b!", "!a", "!!", "a~b", "!b!", "a! b"):
            self.assertIs(read_greedily(layout, text), None)

    def test_numbers(self):
        layout = Layout([Number(0, None), WORDS], [""])
        self.assertEqual(read_greedily(layout, "120ab"), (120, "ab"))
        self.assertEqual(read_greedily(layout, "0ab"), (0, "ab"))
        self.assertIs(read_greedily(layout, "012ab"), None)
        self.assertEqual(read_greedily(layout, "9" * 1000), (10 ** 1000 - 1, ""))
        layout = Layout([Number(5, 120), Number(0, None)], [""])
        self.assertEqual(read_greedily(layout, "1200"), (120, 0))
        self.assertEqual(read_greedily(layout, "1210"), (12, 10))
        self.assertIs(read_greedily(layout, "4"), None)
        self.assertEqual(read_greedily(layout, "45"), None)

    def test_nothing_may_be_left(self):
        layout = Layout([Fixed(2)], [])
        self.assertEqual(read_greedily(layout, "07"), (7,))
        for text in ("", "7", "077", "07!", "07 ", " 07", "a7"):
            self.assertIs(read_greedily(layout, text), None)

    def test_row_is_a_tuple(self):
        self.assertIsInstance(read_greedily(bare_layout(some_fields()), "ab007a.N"), tuple)
        self.assertEqual(read_greedily(bare_layout(some_fields()), "ab007a.N"), ("ab", 0, 7, "a", "", None))

    def test_long_texts(self):
        layout = bare_layout([WORDS] * 8)
        self.assertEqual(read_greedily(layout, "ab" * 2000), ("ab" * 2000,) + ("",) * 7)


class WrongTexts(unittest.TestCase):

    def test_what_is_no_string(self):
        layouts = [bare_layout(some_fields()), Layout([Listed([""])], []), Layout([WORDS, WORDS], ["!"])]
        for layout in layouts:
            for thing in neither_text_nor_number() + [None, 0, 7, -1, ["a"]]:
                for call in (rows_with, count_ways, read_greedily):
                    with self.assertRaises(NoText) as caught:
                        call(layout, thing)
                    self.assertIs(caught.exception.text, thing)

    def test_strings_that_are_no_texts(self):
        for layout in (bare_layout(some_fields()), Layout([WORDS, WORDS], ["~"]), Layout([Fixed(3)], [])):
            for text in ("\n", " ", "%", "\u00e4", "a" * 4000 + "!", "0\u0661", "!" * 4000, "\x00"):
                self.assertEqual(rows_with(layout, text), [])
                self.assertEqual(count_ways(layout, text), 0)
                self.assertIs(read_greedily(layout, text), None)

    def test_by_name(self):
        layout = Layout([WORDS], [])
        self.assertEqual(rows_with(text="a", layout=layout), [("a",)])
        self.assertEqual(count_ways(text="a", layout=layout), 1)
        self.assertEqual(read_greedily(text="a", layout=layout), ("a",))

    def test_layouts_stay(self):
        layout = Layout(some_fields(), ["!"] * 5)
        for text in ("a!0!00!!.!N", "a!0!00!a!.!m1", "a"):
            first = (rows_with(layout, text), count_ways(layout, text), read_greedily(layout, text))
            again = (rows_with(layout, text), count_ways(layout, text), read_greedily(layout, text))
            self.assertEqual(first, again)
        self.assertEqual(layout, Layout(some_fields(), ["!"] * 5))


if __name__ == "__main__":
    unittest.main()
