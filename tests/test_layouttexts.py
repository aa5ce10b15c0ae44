import unittest
from random import Random

from jointkeys.errors import BadField, BadText, NoRow
from jointkeys.fields import Ended, Fixed, Listed, Marked, Number, Word
from jointkeys.layouts import Layout, bare_layout
from jointkeys.layouttexts import layout_text, read_layout, read_row, row_word
from tests.helpers import SIGNS, neither_text_nor_number, some_fields
from tests.rowsearch import Rows, open_layouts, small_layouts, some_layout
from tests.test_layouts import no_rows

# Each field with its word.
WORDS_OF_FIELDS = [
    (Word("ab", 0, None), "word:ab:0:*"), (Word("ba", 2, 12), "word:ba:2:12"), (Word(SIGNS, 0, 0), f"word:{SIGNS}:0:0"),
    (Word("-./", 12, None), "word:-./:12:*"), (Number(0, None), "number:0:*"), (Number(1, 999999999), "number:1:999999999"),
    (Number(999999999, None), "number:999999999:*"), (Number(0, 0), "number:0:0"), (Fixed(1), "fixed:1"),
    (Fixed(20), "fixed:20"), (Listed([""]), "listed:"), (Listed(["a"]), "listed:a"), (Listed(["b", "a"]), "listed:b,a"),
    (Listed(["", "a"]), "listed:,a"), (Listed(["a", "", "b"]), "listed:a,,b"), (Listed(["word", "-"]), "listed:word,-"),
    (Ended("ab", "c", 0, None), "ended:ab:c:0:*"), (Ended("ba", "-", 1, 12), "ended:ba:-:1:12"),
    (Marked("N", "m", Number(1, None)), "marked:N:m:number:1:*"), (Marked("1", "2", Number(5, 9)), "marked:1:2:number:5:9"),
    (Marked("N", "m", Listed(["", "a"])), "marked:N:m:listed:,a"), (Marked("N", "m", Fixed(20)), "marked:N:m:fixed:20"),
    (Marked("N", "m", Ended("ab", "c", 0, 2)), "marked:N:m:ended:ab:c:0:2"), (Marked("a", "b", Word("c", 0, 0)), "marked:a:b:word:c:0:0"),
]


class LayoutTexts(unittest.TestCase):

    def both_ways(self, layout, text):
        self.assertEqual(layout_text(layout), text)
        self.assertEqual(read_layout(text), layout)

    def test_example(self):
        layout = Layout([Marked("N", "m", Number(1, None)), Listed(["a", ""])], ["!"])
        self.both_ways(layout, "marked:N:m:number:1:* ! listed:a,")

    def test_each_field(self):
        for field, word in WORDS_OF_FIELDS:
            self.both_ways(Layout([field], []), word)

    def test_separators(self):
        for one, word in WORDS_OF_FIELDS:
            for other, other_word in WORDS_OF_FIELDS:
                self.both_ways(Layout([one, other], [""]), word + " " + other_word)
                self.both_ways(Layout([one, other], ["!"]), word + " ! " + other_word)
                self.both_ways(Layout([one, other], ["~"]), word + " ~ " + other_word)

    def test_eight_fields(self):
        layout = Layout([Fixed(2)] * 8, ["", "!", "~", "", "!", "~", ""])
        self.both_ways(layout, "fixed:2 fixed:2 ! fixed:2 ~ fixed:2 fixed:2 ! fixed:2 ~ fixed:2 fixed:2")
        self.both_ways(bare_layout([Fixed(2)] * 8), " ".join(["fixed:2"] * 8))

    def test_there_and_back(self):
        random = Random(21)
        texts = {}
        for layout in small_layouts() + open_layouts() + [some_layout(random, 8, 10 ** 9) for _ in range(200)]:
            text = layout_text(layout)
            self.assertEqual(read_layout(text), layout)
            self.assertEqual(texts.setdefault(text, layout), layout)

    def test_by_name_and_nothing_changes(self):
        layout = Layout(some_fields(), ["!"] * 5)
        text = layout_text(layout=layout)
        self.assertEqual(read_layout(text=text), layout)
        self.assertEqual(layout_text(Layout(tuple(some_fields()), ("!",) * 5)), text)
        self.assertEqual(layout, Layout(some_fields(), ["!"] * 5))


class BadTexts(unittest.TestCase):

    def refused(self, text, place):
        with self.assertRaises(BadText) as caught:
            read_layout(text)
        self.assertEqual(caught.exception.place, place, text)

    def test_what_is_no_string(self):
        for thing in neither_text_nor_number() + [None, 0, 5, ["fixed:1"]]:
            self.refused(thing, 0)

    def test_words_of_no_form(self):
        wrong = [
            "", "a", "fixed", "fixed:", "fixed:a", "fixed:01", "fixed:00", "fixed:-1", "fixed:+1", "fixed:1:", "fixed:1:2",
            "fixed:*", "Fixed:1", "fixed:1,", "fixed:1.0", "fixed:\u0661", "fixed:1\n", "fixed:1000000000",
            "fixed:0000000001", "number", "number:", "number:1", "number:1:", "number::1", "number:*:1", "number:1:2:3",
            "number:01:5", "number:1:05", "number:1:1000000000", "number:1000000000:*", "number:1:-", "number:1:**",
            "word", "word:ab", "word:ab:0", "word:ab:0:", "word:ab::1", "word:ab:0:1:2", "word:0:1", "word:a,b:0:1",
            "word:ab:x:1", "word:ab:0:x", "word:a:b:0:1", "word:ab:*:*", "listed", "listed:a:b", "listed:a,b:", "list:a",
            "ended:ab:c:0", "ended:ab:0:1", "ended:ab:c:0:1:2", "ended:a,b:c:0:1", "ended:ab:,:0:1", "ended:ab:c::1",
            "ended:ab:c:0:", "ended", "marked", "marked:", "marked:N:m", "marked:N:m:", "marked:N:m:x", "marked:N:fixed:1",
            "marked:N:m:fixed", "marked:,:m:fixed:1", "marked:N:,:fixed:1", "marked:N:m:fixed:01", "marked:N:m:!",
            "marked:N:m:marked", "marked:N:m:marked:A:b:", "marked:N:m:marked:A:b:fixed:01", "mark:N:m:fixed:1", "!!", "~!",
            "!a", "a!", "word:a:0:1!", "marked:" * 500,
        ]
        for word in wrong:
            self.refused(word, 0)
            self.refused("fixed:1 " + word, 1)
            self.refused("fixed:0 ! " + word, 2)
            self.refused(word + " fixed:1 x", 0)
            self.refused(" ".join(["listed:"] * 7 + [word]), 7)

    def test_separators_that_cannot_stand_there(self):
        cases = [
            ("!", 0), ("~", 0), ("! fixed:1", 0), ("~ fixed:1", 0), ("fixed:1 !", 1), ("fixed:1 ~", 1), ("fixed:1 ! !", 2),
            ("fixed:1 ! ~ fixed:1", 2), ("fixed:1 ! ! fixed:1", 2), ("! ! fixed:1", 0), ("fixed:1 fixed:1 ~", 2),
            ("fixed:1 ! fixed:1 ! x", 4), ("x ! ! fixed:1", 0), ("fixed:1 ! x !", 2), ("fixed:1 ~ ~ ~", 2), ("fixed:0 ~", 1),
        ]
        for text, place in cases:
            self.refused(text, place)

    def test_blanks_too_many(self):
        cases = [(" ", 0), (" fixed:1", 0), ("fixed:1 ", 1), ("fixed:1  fixed:1", 1), ("fixed:1 !  fixed:1", 2),
                 ("fixed:1  ! fixed:1", 1), ("fixed:1 ! fixed:1 ", 3), ("fixed:1 ! ", 2), ("word:a b:0:1", 0), ("listed:a, b", 1),
                 ("fixed:1\tfixed:1", 0), ("fixed:1\nfixed:1", 0)]
        for text, place in cases:
            self.refused(text, place)


class BadFields(unittest.TestCase):

    def refused(self, text, what):
        with self.assertRaises(BadField) as caught:
            read_layout(text)
        self.assertEqual(caught.exception.what, what, text)

    def test_each_field(self):
        cases = [
            ("word::0:1", "signs"), ("word:aa:0:1", "signs"), ("word:a!:0:1", "signs"), ("word:\u00e4:0:1", "signs"),
            ("word:a\n:0:1", "signs"), ("word:a:2:1", "most"), ("word::2:1", "signs"), ("number:2:1", "most"), ("fixed:0", "width"),
            ("listed:a,a", "texts"), ("listed:,", "texts"), ("listed:a!", "texts"), ("listed:%", "texts"), ("ended:ab::0:1", "sign"),
            ("ended:ab:cd:0:1", "sign"), ("ended:ab:a:0:1", "sign"), ("ended:ab:!:0:1", "sign"), ("ended::c:0:1", "signs"),
            ("ended:ab:c:2:1", "most"), ("marked:::fixed:1", "none"), ("marked:N::fixed:1", "mark"), ("marked:N:N:fixed:1", "mark"),
            ("marked:NN:m:fixed:1", "none"), ("marked:N:!:fixed:1", "mark"), ("marked:1:m:fixed:1", "field"),
            ("marked:N:2:fixed:1", "field"), ("marked:N:m:marked:A:b:fixed:1", "field"),
        ]
        for word, what in cases:
            self.refused(word, what)
            self.refused("fixed:1 ! " + word + " fixed:0", what)

    def test_the_first_field_is_told(self):
        self.refused("fixed:1 word::0:1 ~ fixed:0", "signs")
        self.refused("fixed:0 ~ word::0:1", "width")

    def test_inner_fields_come_first(self):
        self.refused("marked:NN:!:fixed:0", "width")
        self.refused("marked:NN:!:marked:A:A:number:2:1", "most")
        self.refused("marked:NN:!:marked:A:A:number:1:2", "mark")
        self.refused("marked:NN:m:marked:A:b:number:1:2", "none")
        self.refused("marked:N:m:" * 350 + "fixed:1", "field")

    def test_bad_texts_come_before_bad_fields(self):
        with self.assertRaises(BadText) as caught:
            read_layout("fixed:0 word:aa:0:1 !")
        self.assertEqual(caught.exception.place, 2)


class RowWords(unittest.TestCase):

    def both_ways(self, layout, row, text):
        self.assertEqual(row_word(layout, row), text)
        found = read_row(layout, text)
        self.assertEqual(found, tuple(row))
        self.assertIs(type(found), tuple)

    def test_each_kind(self):
        layout = bare_layout(some_fields())
        self.both_ways(layout, ("a", 7, 7, "", "", None), "a,7,7,,,=")
        self.both_ways(layout, ["", 0, 0, "a", "ba", 5], ",0,0,a,ba,5")
        self.both_ways(Layout([Fixed(20)], []), [10 ** 20 - 1], "9" * 20)
        self.both_ways(Layout([Listed(["", "a"])], []), [""], "")
        self.both_ways(bare_layout([Listed([""])] * 8), [""] * 8, "," * 7)
        self.both_ways(bare_layout([Marked("N", "m", Listed(["", "a"]))] * 3), [None, "", "a"], "=,,a")
        self.both_ways(Layout([Marked("a", "b", Fixed(1)), Fixed(3)], ["!"]), [None, 7], "=,7")

    def test_long_values(self):
        layout = Layout([Number(0, None), Marked("N", "m", Number(0, None)), Word("ab", 0, None)], ["", "!"])
        self.both_ways(layout, [10 ** 1000 - 1, 10 ** 999, "ab" * 900], "9" * 1000 + ",1" + "0" * 999 + "," + "ab" * 900)
        self.both_ways(layout, [10 ** 5000, None, ""], "1" + "0" * 5000 + ",=,")

    def test_all_rows(self):
        random = Random(22)
        for layout in small_layouts()[::10] + [some_layout(random, 4, 100) for _ in range(40)]:
            words = {}
            for row in Rows(layout).rows:
                text = row_word(layout, row)
                self.assertEqual(read_row(layout, text), row)
                self.assertEqual(words.setdefault(text, row), row)

    def test_by_name(self):
        layout = Layout([Fixed(2)], [])
        self.assertEqual(row_word(row=[7], layout=layout), "7")
        self.assertEqual(read_row(text="7", layout=layout), (7,))

    def test_what_is_no_row(self):
        layout = bare_layout(some_fields())
        for wrong, place in no_rows(layout, ("a", 7, 7, "", "", None)):
            with self.assertRaises(NoRow) as caught:
                row_word(layout, wrong)
            self.assertEqual(caught.exception.place, place)

    def refused(self, layout, text, place):
        with self.assertRaises(NoRow) as caught:
            read_row(layout, text)
        self.assertEqual(caught.exception.place, place, text)

    def test_what_is_no_string(self):
        for thing in neither_text_nor_number() + [None, 0, 7, ("a", 1)]:
            self.refused(bare_layout(some_fields()), thing, -1)

    def test_what_is_no_word_of_a_value(self):
        layout = bare_layout(some_fields())
        right = "a,7,7,,,=".split(",")
        wrong = [["c", "=", "ab ", "a!", "\n"], ["", "=", "07", "00", "-1", "+1", "1.0", "a", "\u0661", " 7"],
                 ["", "=", "07", "007", "100", "-1"], ["=", "b", "aa"], ["=", "aaa", "a.", "."],
                 ["", "0", "6", "05", "N", "m1", "None", "=="]]
        for place, words in enumerate(wrong):
            for word in words:
                self.refused(layout, ",".join(right[:place] + [word] + right[place + 1:]), place)
                self.refused(layout, ",".join(right[:place] + [word]), place)
                self.refused(layout, ",".join(right[:place] + [word] + right[place + 1:] + ["x"]), place)

    def test_too_few_and_too_many_words(self):
        layout = bare_layout(some_fields())
        self.refused(layout, "a,7,7,,", 5)
        self.refused(layout, "a,7,7", 3)
        self.refused(layout, "a", 1)
        self.refused(layout, "", 1)
        self.refused(layout, "a,7,7,,,=,", 6)
        self.refused(layout, "a,7,7,,,=,5,5", 6)
        self.refused(Layout([Fixed(1)], []), "", 0)
        self.refused(Layout([Fixed(1)], []), "7,", 1)


if __name__ == "__main__":
    unittest.main()
