import unittest
from random import Random

from jointkeys.errors import NoJoint
from jointkeys.fields import Ended, Fixed, Listed, Marked, Number, Word
from jointkeys.keeping import Pair, alike_rows, mistaken_row, strangers, unsorted_rows
from jointkeys.layouts import Layout, bare_layout
from tests.helpers import built_in_things, own_things, some_fields
from tests.rowsearch import Rows, open_layouts, small_layouts, some_layout

WORDS = Word("ab", 0, None)
WORDS_OF_C = Word("c", 0, 2)


class AgainstAllRows(unittest.TestCase):
    """Each answer is looked for among all rows, and with it whether there is a shorter one."""

    def check(self, layout, longest=3):
        known = Rows(layout, longest)
        self.check_pair(known, alike_rows(layout), known.are_alike, known.least_alike(), 2)
        self.check_pair(known, unsorted_rows(layout), known.are_unsorted, known.least_unsorted(), 1)
        for k in range(len(layout.joints)):
            self.check_pair(known, strangers(layout, k), lambda one, other: known.are_strangers(one, other, k),
                            known.least_strangers(k), 1)
        row = mistaken_row(layout)
        least = known.least_mistaken()
        self.assertIs(row is None, least is None, self.told(layout))
        if row is not None:
            self.assertIsInstance(row, tuple)
            self.assertTrue(known.is_mistaken(row), self.told(layout))
            self.assertEqual(len(known.text_of(row)), least, self.told(layout))

    def check_pair(self, known, pair, shows, least, times):
        told = self.told(known.layout)
        self.assertIs(pair is None, least is None, told)
        if pair is None:
            return
        self.assertIs(type(pair), Pair)
        self.assertEqual({type(pair.one), type(pair.other)}, {tuple})
        self.assertTrue(shows(pair.one, pair.other), told)
        self.assertEqual(len(known.text_of(pair.one)) + len(known.text_of(pair.other)), times * least, told)

    def told(self, layout):
        return [(field.__class__.__name__, vars(field)) for field in layout.fields], layout.joints

    def test_small_layouts(self):
        for layout in small_layouts():
            self.check(layout)

    def test_mixed_layouts(self):
        random = Random(5)
        for _ in range(500):
            self.check(some_layout(random, 3, 120))

    def test_layouts_of_more_fields(self):
        random = Random(6)
        for _ in range(60):
            fields = [Listed(random.sample(["", "a", "b", "ab", "ba", "bb", "aab"], random.randrange(1, 3)))
                      for _ in range(random.randrange(4, 9))]
            self.check(Layout(fields, [random.choice(["", "", "!", "~"]) for _ in fields[1:]]))

    def test_longer_listed_texts(self):
        # In their order as strings, so that only what follows a shorter text can be unsorted.
        random = Random(9)
        for _ in range(150):
            fields = []
            for _ in range(random.randrange(2, 4)):
                texts = {"".join(random.choice("abc") for _ in range(random.randrange(1, 7))) for _ in range(4)}
                beginnings = {text[:random.randrange(1, 3)] for text in texts if len(text) > 3}
                fields.append(Listed(sorted(texts | beginnings)))
            self.check(bare_layout(fields))

    def test_fields_without_an_end(self):
        # The answers are so short that longer texts need not be looked at.
        for layout in open_layouts():
            self.check(layout, 3 if len(layout.fields) == 1 else 2)


class Alike(unittest.TestCase):

    def test_none(self):
        for layout in (Layout([WORDS], []), Layout([Number(0, None)], []), Layout([WORDS] * 8, ["!"] * 7),
                       Layout([WORDS] * 8, ["~"] * 7), bare_layout([Fixed(20)] * 8), bare_layout([Listed([""])] * 8),
                       bare_layout([Number(0, None), Word("ab", 1, None)]), bare_layout([Ended("ab", "c", 0, None)] * 8),
                       bare_layout([Word("ab", 3, 3), WORDS]), bare_layout([Fixed(20)] * 7 + [Number(0, None)]),
                       Layout([Number(0, None), Fixed(2), Number(0, None)], ["!", ""])):
            self.assertIs(alike_rows(layout), None)

    def test_fewest_characters(self):
        # A one-sign text can be parted in two ways, behind all that must stand there.
        pair = alike_rows(Layout([Word("ab", 2, None), WORDS, Fixed(3)], ["", "~"]))
        self.assertEqual((len(pair.one[0] + pair.one[1]), pair.one[2]), (3, pair.other[2]))
        self.assertEqual(pair.one[0] + pair.one[1], pair.other[0] + pair.other[1])
        self.assertLess(pair.one, pair.other)
        self.assertEqual(alike_rows(bare_layout([Listed(["a", "ab"]), Listed(["bc", "c"])])),
                         Pair(("a", "bc"), ("ab", "c")))
        self.assertEqual(alike_rows(bare_layout([Listed(["ab", "a"]), Listed(["bc", "c"])])),
                         Pair(("ab", "c"), ("a", "bc")))

    def test_unlike_from_a_later_field_on(self):
        layout = Layout([Fixed(2), Marked("N", "m", WORDS), Listed(["b", "", "c"])], ["!", ""])
        pair = alike_rows(layout)
        self.assertEqual((pair.one[1:], pair.other[1:]), (("", "b"), ("b", "")))
        self.assertEqual(pair.one[0], pair.other[0])


class Unsorted(unittest.TestCase):

    def test_none(self):
        for layout in (Layout([WORDS], []), Layout([Number(10, 99)], []), Layout([WORDS] * 8, ["!"] * 7),
                       bare_layout([Fixed(20)] * 8), Layout([Ended("bc", "a", 0, None)], []),
                       Layout([Marked("a", "b", WORDS_OF_C)], []), bare_layout([Listed([""])] * 8),
                       Layout([Listed(["a", "ab"]), Fixed(1)], ["!"]), Layout([Listed(["ab", "a"]), Fixed(1)], ["~"]),
                       Layout([Ended("bc", "a", 0, None)] * 8, [""] * 7),
                       bare_layout([Listed(["1", "9", "99"]), Listed([""])])):
            self.assertIs(unsorted_rows(layout), None)

    def test_separators(self):
        for fields in ([WORDS, WORDS], [Word("a", 1, 2), Fixed(1)], [Listed(["a", "ab"]), Fixed(20)]):
            self.assertIs(unsorted_rows(Layout(fields, ["!"])), None)
            self.assertIsNot(unsorted_rows(Layout(fields, ["~"])), None)
        fields = [Listed(["ab", "a"]), Fixed(20)]
        self.assertIs(unsorted_rows(Layout(fields, ["~"])), None)
        self.assertIsNot(unsorted_rows(Layout(fields, ["!"])), None)

    def test_crossed_values_of_one_field(self):
        self.assertEqual(unsorted_rows(Layout([Marked("z", "a", Listed(["c", "b"]))], [])).one, (None,))
        cases = [
            (Number(0, None), Pair((9,), (10,))), (Number(0, 10), Pair((9,), (10,))), (Number(9, 10), Pair((9,), (10,))),
            (Number(10, 99), None), (Number(10, 100), Pair((99,), (100,))), (Number(98, None), Pair((99,), (100,))),
            (Number(10 ** 9 - 1, None), Pair((10 ** 9 - 1,), (10 ** 9,))), (Number(7, 9), None),
            (Number(123456789, 987654321), None), (Fixed(2), None), (Word("ba", 0, 3), None),
            (Listed(["b", "a"]), Pair(("b",), ("a",))), (Listed(["ab", "a"]), Pair(("ab",), ("a",))),
            (Listed(["a", "ab"]), None), (Listed(["a", ""]), Pair(("a",), ("",))),
            (Ended("ab", "c", 0, 2), Pair(("",), ("a",))), (Ended("ab", "c", 1, 1), None),
            (Ended("bc", "a", 0, 2), None), (Ended("ac", "b", 1, None), Pair(("a",), ("aa",))),
            (Marked("b", "a", WORDS_OF_C), Pair((None,), ("",))), (Marked("a", "b", WORDS_OF_C), None),
            (Marked("N", "m", Number(5, None)), Pair((9,), (10,))), (Marked("-", "a", Fixed(20)), None),
            (Marked("-", "a", Listed(["c", "b"])), Pair(("c",), ("b",))),
        ]
        for field, expected in cases:
            self.assertEqual(unsorted_rows(Layout([field], [])), expected, vars(field))

    def test_same_text_is_not_less(self):
        layout = bare_layout([Listed(["a", "ab"]), Listed(["", "b"])])
        self.assertEqual(unsorted_rows(layout), Pair(("a", "b"), ("ab", "")))


    def test_of_several_signs_that_differ_the_shortest_way_is_taken(self):
        # Behind "xk", "z" stands against "a" or "c", and "b" against "a" alone.
        layout = bare_layout([Listed(["x", "xk"]), Listed(["aaaaaa", "c", "kb", "kzzzz"])])
        self.assertEqual(unsorted_rows(layout), Pair(("x", "kzzzz"), ("xk", "c")))


class Strangers(unittest.TestCase):

    def test_none(self):
        for layout in (Layout([WORDS] * 8, ["!"] * 7), Layout([WORDS] * 8, ["~"] * 7), bare_layout([Fixed(20)] * 8),
                       bare_layout([Ended("ab", "c", 0, None)] * 8), bare_layout([Word("ab", 4, 4)] * 8),
                       Layout([Number(0, None), WORDS], ["!"]), Layout([Listed(["b", "a", ""]), WORDS], ["~"]),
                       bare_layout([Marked("N", "m", Fixed(20)), WORDS])):
            for k in range(len(layout.joints)):
                self.assertIs(strangers(layout, k), None)

    def test_each_joint(self):
        layout = Layout([Listed(["ann", "anna"]), Fixed(2), Word("ab", 1, 2), Fixed(1)], ["!", "", ""])
        self.assertIs(strangers(layout, 0), None)
        self.assertIs(strangers(layout, 1), None)
        pair = strangers(layout, 2)
        self.assertEqual((len(pair.one[2]), len(pair.other[2])), (1, 2))
        self.assertEqual(pair.one[:2], pair.other[:2])

    def test_the_head_ends_with_its_separator(self):
        # "a!" begins no text of a row with "ab"; without the separator the head "a" does.
        fields = [Listed(["a", "ab"]), Listed(["b", "c"])]
        self.assertEqual(strangers(Layout(fields, [""]), 0).one[0], "a")
        self.assertIs(strangers(Layout(fields, ["!"]), 0), None)

    def test_either_row_may_have_the_longer_value(self):
        # The head of "a", "bc" at 1 is "abc", and so begins the text of "abc", "d".
        layout = bare_layout([Listed(["a", "abc"]), Listed(["bc", "d"]), Listed([""])])
        self.assertEqual(strangers(layout, 1), Pair(("a", "bc", ""), ("abc", "d", "")))
        layout = bare_layout([Listed(["abc", "a"]), Listed([""]), Listed(["x"])])
        self.assertEqual(strangers(layout, 0), Pair(("a", "", "x"), ("abc", "", "x")))
        layout = bare_layout([Listed(["a", "ab"]), Listed(["", "bc"]), Listed(["x"])])
        self.assertEqual(strangers(layout, 1), Pair(("a", "", "x"), ("ab", "", "x")))
        layout = bare_layout([Listed(["a", "ab"]), Listed(["c", "bcd"]), Listed(["x"])])
        self.assertEqual(strangers(layout, 1), Pair(("ab", "c", "x"), ("a", "bcd", "x")))

    def test_fewest_characters_of_both_texts(self):
        # A longer head may have the shorter stranger: "cde" and 8 signs, "a" and 11.
        layout = bare_layout([Listed(["a", "a" + "x" * 10, "cde", "cde" + "y" * 5]), Fixed(1)])
        self.assertEqual(strangers(layout, 0), Pair(("cde", 0), ("cdeyyyyy", 0)))
        layout = bare_layout([Listed(["a", "a" + "x" * 9, "cde", "cde" + "y" * 6]), Fixed(1)])
        self.assertEqual(strangers(layout, 0), Pair(("a", 0), ("a" + "x" * 9, 0)))

    def test_what_is_no_joint(self):
        wrong = [-1, -2, 10 ** 30, None, "", "0", "!", [0], (0,)] + built_in_things() + own_things()
        for layout in (Layout([WORDS], []), Layout([WORDS] * 2, [""]), Layout([WORDS] * 8, ["!"] * 7)):
            many = len(layout.joints)
            for thing in wrong + [many, many + 1]:
                with self.assertRaises(NoJoint) as caught:
                    strangers(layout, thing)
                self.assertIs(caught.exception.k, thing)
            for k in range(many):
                strangers(k=k, layout=layout)


class Mistaken(unittest.TestCase):

    def test_none(self):
        for layout in (Layout([WORDS], []), Layout([WORDS] * 8, ["!"] * 7), Layout([WORDS] * 8, ["~"] * 7),
                       bare_layout([Fixed(20)] * 8), bare_layout([Number(0, None), Word("ab", 0, None)]),
                       bare_layout([Word("ab", 0, None), Number(0, None), Word("ab", 0, None)]),
                       bare_layout([Listed(["b", "a", ""]), Listed(["c", "d"])])):
            self.assertIs(mistaken_row(layout), None)

    def test_fewest_characters(self):
        self.assertEqual(len(mistaken_row(bare_layout([WORDS] * 8))[1:]), 7)
        self.assertEqual(sum(map(len, mistaken_row(bare_layout([WORDS] * 8)))), 1)
        self.assertEqual(mistaken_row(bare_layout([Number(0, 12), Fixed(1)])), (1, 0))
        self.assertEqual(mistaken_row(bare_layout([Number(0, 12), Fixed(2)])), (1, 0))
        self.assertEqual(mistaken_row(bare_layout([Listed(["a", "abc"]), Listed(["bd", "b", "bcc"])])), ("a", "bcc"))
        # Of the text that is read in its place, no character counts.
        layout = bare_layout([Listed(["a", "abbbb", "c", "cd"]), Listed(["bbbb", "ddddd"])])
        self.assertEqual(mistaken_row(layout), ("a", "bbbb"))
        self.assertEqual(mistaken_row(Layout([Fixed(1), Listed(["", "aa"]), Listed(["aa", "ab"])], ["~", ""])),
                         (0, "", "aa"))


class Facts(unittest.TestCase):
    """What [13] says of layouts, their blocks, and what they keep."""

    def layouts(self):
        random = Random(13)
        return [some_layout(random, 5, 10 ** 9) for _ in range(250)] + small_layouts()[::7] + open_layouts()

    def blocks(self, layout):
        """Each block with the separator behind it, or "" behind the last one."""
        found = [([layout.fields[0]], "")]
        for field, joint in zip(layout.fields[1:], layout.joints):
            if joint == "":
                found[-1][0].append(field)
            else:
                found[-1] = (found[-1][0], joint)
                found.append(([field], ""))
        return found

    def closed(self, fields, joint):
        if joint == "":
            return bare_layout(fields)
        return Layout(list(fields) + [Listed([""])], [""] * (len(fields) - 1) + [joint])

    def test_read_back_by_blocks(self):
        for layout in self.layouts():
            kept = all(alike_rows(bare_layout(fields)) is None for fields, _ in self.blocks(layout))
            self.assertIs(alike_rows(layout) is None, kept)

    def test_sorted_by_closed_blocks(self):
        for layout in self.layouts():
            kept = all(unsorted_rows(self.closed(fields, joint)) is None for fields, joint in self.blocks(layout))
            self.assertIs(unsorted_rows(layout) is None, kept)

    def test_sorted_and_greedy_layouts_are_read_back(self):
        for layout in self.layouts():
            if unsorted_rows(layout) is None or mistaken_row(layout) is None:
                self.assertIs(alike_rows(layout), None)

    def test_same_answers_again(self):
        for layout in self.layouts()[::5] + [bare_layout(some_fields())]:
            again = Layout(list(layout.fields), list(layout.joints))
            for call in (alike_rows, unsorted_rows, mistaken_row):
                self.assertEqual(call(layout), call(again))
                self.assertEqual(call(layout=layout), call(layout))
            for k in range(len(layout.joints)):
                self.assertEqual(strangers(layout, k), strangers(again, k))
            self.assertEqual(layout, again)


if __name__ == "__main__":
    unittest.main()
