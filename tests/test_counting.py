import unittest
from random import Random
from time import perf_counter

from jointkeys.counting import count_rows, from_text, place_of, rank_of, row_at
from jointkeys.errors import BadField, NoPlace, NoRow, NoText, Unbounded
from jointkeys.fields import Ended, Fixed, Listed, Marked, Number, Word
from jointkeys.layouts import Layout, bare_layout, row_text
from jointkeys.reading import count_ways
from tests.helpers import SIGNS, built_in_things, neither_text_nor_number, own_things
from tests.rowsearch import Rows, small_layouts, some_layout

MOST_SECONDS = 5
ODD_TEXTS = ["", "!", "~", "a", "b", "zz", "0", "9", "N", "a!", "!a", " ", "%", "\n", "\x00", "\x7f", "\u00e4", "\u0661",
             "\ud800", "A", "{", "aa" * 30, "~" * 30]


class AgainstAllRows(unittest.TestCase):

    def check(self, layout, most_texts=40):
        known = Rows(layout)
        order = sorted(range(len(known.rows)), key=lambda place: (known.texts[place], place))
        self.assertEqual(count_rows(layout), len(order))
        for at, place in enumerate(order):
            row = known.rows[place]
            self.assertEqual(row_at(layout, at), row)
            self.assertEqual(place_of(layout, row), at)
            self.assertEqual(place_of(layout, list(row)), at)
        texts = sorted(set(known.texts))[:most_texts]
        nearby = [text + sign for text in texts[:8] for sign in "!~a0 \u00e4"] + [text[:-1] for text in texts[:8]]
        for text in texts + nearby + ODD_TEXTS:
            rank = sum(own < text for own in known.texts)
            self.assertEqual(rank_of(layout, text), rank, text)
            expected = known.rows[order[rank]] if rank < len(order) else None
            self.assertEqual(from_text(layout, text), expected, text)

    def test_small_layouts(self):
        for layout in small_layouts()[::9]:
            self.check(layout)

    def test_mixed_layouts(self):
        random = Random(18)
        for _ in range(120):
            self.check(some_layout(random, random.choice([2, 3, 5]), 150))

    def test_layouts_of_eight_fields(self):
        random = Random(19)
        for _ in range(20):
            fields = [Listed(random.sample(["", "a", "b", "ab", "ba", "bb", "aab"], random.randrange(1, 3)))
                      for _ in range(8)]
            self.check(Layout(fields, [random.choice(["", "", "!", "~"]) for _ in range(7)]), 15)


class Answers(unittest.TestCase):

    def test_examples(self):
        self.assertEqual(count_rows(Layout([Fixed(20), Fixed(20), Fixed(20)], ["", "!"])), 10 ** 60)
        layout = Layout([Listed(["b", "a"]), Fixed(1)], [""])
        self.assertEqual((row_at(layout, 12), rank_of(layout, "b"), place_of(layout, ["a", 3])), (("b", 2), 10, 3))

    def test_numbers_of_values(self):
        cases = [
            (Word("ab", 0, 0), 1), (Word("ab", 0, 3), 15), (Word("a", 2, 12), 11), (Word(SIGNS, 12, 12), 66 ** 12),
            (Number(0, 0), 1), (Number(0, 9), 10), (Number(0, 10), 11), (Number(5, 123), 119), (Number(99, 100), 2),
            (Number(0, 10 ** 9 - 1), 10 ** 9), (Number(123456789, 987654321), 864197533), (Number(7, 100000001), 99999995),
            (Number(19, 21), 3), (Number(100, 100), 1), (Number(1999, 20000), 18002), (Fixed(1), 10), (Fixed(20), 10 ** 20),
            (Listed([""]), 1), (Listed(["b", "", "a"]), 3), (Ended("ab", "c", 0, 3), 15), (Ended("01", "-", 12, 12), 4096),
            (Marked("N", "m", Number(1, 5)), 6), (Marked("N", "m", Fixed(20)), 10 ** 20 + 1),
        ]
        self.assertEqual(len(SIGNS), 66)
        for field, many in cases:
            self.assertEqual(count_rows(Layout([field], [])), many, vars(field))
            self.assertEqual(count_rows(Layout([field, field, field], ["", "~"])), many ** 3)

    def test_first_and_last_place(self):
        layout = Layout([Number(0, 10 ** 9 - 1), Word("ab", 0, 12), Fixed(20)], ["", "!"])
        many = count_rows(layout)
        self.assertEqual(many, 10 ** 9 * 8191 * 10 ** 20)
        self.assertEqual(row_at(layout, 0), (0, "", 0))
        self.assertEqual(row_at(layout, many - 1), (9, "b" * 12, 10 ** 20 - 1))
        self.assertEqual(place_of(layout, (0, "", 0)), 0)
        self.assertEqual(place_of(layout, (9, "b" * 12, 10 ** 20 - 1)), many - 1)
        self.assertEqual((rank_of(layout, ""), rank_of(layout, "~")), (0, many))
        self.assertEqual(from_text(layout, ""), (0, "", 0))
        self.assertIs(from_text(layout, "a"), None)
        self.assertEqual(from_text(layout, "0b" + "b" * 11 + "!" + "9" * 20), (0, "b" * 12, 10 ** 20 - 1))
        self.assertEqual(from_text(layout, "0b" + "b" * 11 + "!" + "9" * 21), (1, "", 0))

    def test_one_row(self):
        layout = bare_layout([Listed([""])] * 8)
        self.assertEqual((count_rows(layout), row_at(layout, 0), place_of(layout, [""] * 8)), (1, ("",) * 8, 0))
        self.assertEqual((rank_of(layout, ""), rank_of(layout, "\x00")), (0, 1))
        self.assertEqual((from_text(layout, ""), from_text(layout, "!")), (("",) * 8, None))

    def test_rows_that_share_one_text(self):
        layout = bare_layout([Listed(["ab", "", "a"]), Listed(["", "b", "ab"])])
        self.assertEqual(count_rows(layout), 9)
        shared = [("ab", ""), ("", "ab"), ("a", "b")]
        first = rank_of(layout, "ab")
        self.assertEqual([row_at(layout, first + at) for at in range(3)], shared)
        self.assertEqual([place_of(layout, row) for row in shared], [first, first + 1, first + 2])
        self.assertEqual(from_text(layout, "ab"), ("ab", ""))
        self.assertEqual(from_text(layout, "aa\x7f"), ("ab", ""))

    def test_very_many_rows_that_share_one_text(self):
        layout = bare_layout([Word("a", 0, 12)] * 8)
        text = "a" * 48
        many = count_ways(layout, text)
        first = rank_of(layout, text)
        self.assertGreater(many, 10 ** 7)
        self.assertEqual(rank_of(layout, text + "a") - first, many)
        self.assertEqual(row_at(layout, first), ("",) * 4 + ("a" * 12,) * 4)
        self.assertEqual(row_at(layout, first + many - 1), ("a" * 12,) * 4 + ("",) * 4)
        for place in (first + many // 3, first + many // 2):
            row = row_at(layout, place)
            self.assertEqual((row_text(layout, row), place_of(layout, row)), (text, place))
            self.assertLess(row, row_at(layout, place + 1))

    def test_large_numbers_of_rows(self):
        random = Random(20)
        layouts = [bare_layout([Fixed(20)] * 8), bare_layout([Word(SIGNS, 0, 12)] * 8),
                   Layout([Fixed(20), Fixed(20), Fixed(20)], ["", "!"])]
        while len(layouts) < 40:
            layouts.append(large_layout(random))
        for layout in layouts:
            start = perf_counter()
            many = count_rows(layout)
            for place in [0, many - 1, many // 2, many // 3, random.randrange(many)]:
                row = row_at(layout, place)
                text = row_text(layout, row)
                self.assertEqual(place_of(layout, row), place)
                self.assertLessEqual(rank_of(layout, text), place)
                self.assertEqual(row_text(layout, from_text(layout, text)), text)
                if place > 0:
                    self.assertLessEqual(row_text(layout, row_at(layout, place - 1)), text)
            self.assertLess(perf_counter() - start, MOST_SECONDS)

    def test_rows_are_tuples(self):
        layout = Layout((Fixed(1), Listed(("a", ""))), ("~",))
        for row in (row_at(layout, 3), from_text(layout, "3")):
            self.assertIs(type(row), tuple)

    def test_by_name_and_again(self):
        layout = Layout([Listed(["b", "a"]), Fixed(1)], [""])
        again = Layout((Listed(("b", "a")), Fixed(1)), ("",))
        for _ in range(2):
            self.assertEqual(count_rows(layout=layout), count_rows(again))
            self.assertEqual(rank_of(text="b", layout=layout), rank_of(again, "b"))
            self.assertEqual(row_at(place=4, layout=layout), row_at(again, 4))
            self.assertEqual(place_of(row=("a", 1), layout=layout), place_of(again, ["a", 1]))
            self.assertEqual(from_text(text="b5", layout=layout), from_text(again, "b5"))
        self.assertEqual(layout, again)


def large_layout(random):
    fields = []
    while len(fields) < 8:
        signs = random.choice(["ab", "01", "a0", SIGNS[1:]])
        least = random.choice([0, 1, 12])
        low = random.choice([0, 1, 10, 99999, 123456789])
        try:
            field = random.choice([
                Word(signs, least, 12), Number(low, random.choice([10 ** 9 - 1, 987654321])), Fixed(random.choice([1, 20])),
                Ended(signs, "-", least, 12), Listed(["", "a", "ab", "b", "0", "01"])])
            fields.append(random.choice([field, Marked("N", "m", field)]))
        except BadField:
            pass
    return Layout(fields, [random.choice(["", "", "!", "~"]) for _ in range(7)])


class Errors(unittest.TestCase):

    def refused(self, kind, name, expected, call, *given):
        with self.assertRaises(kind) as caught:
            call(*given)
        got = getattr(caught.exception, name)
        self.assertTrue(got is expected or got == expected, (got, expected))

    def test_unbounded(self):
        unbounded = [Word("ab", 0, None), Number(0, None), Ended("ab", "c", 1, None), Marked("N", "m", Word("a", 0, None)),
                     Marked("N", "m", Number(1, None)), Marked("N", "m", Ended("a", "b", 0, None))]
        for field in unbounded:
            for at in range(8):
                layout = Layout([Fixed(20)] * at + [field] * (8 - at), ["!"] * 7)
                self.refused(Unbounded, "index", at, count_rows, layout)
                for thing in ("", "a", None, 7):
                    self.refused(Unbounded, "index", at, rank_of, layout, thing)
                    self.refused(Unbounded, "index", at, from_text, layout, thing)
                    self.refused(Unbounded, "index", at, place_of, layout, thing)
                    self.refused(Unbounded, "index", at, row_at, layout, thing)

    def test_what_is_no_string(self):
        layout = Layout([Fixed(1), Listed([""])], [""])
        for thing in neither_text_nor_number() + [None, 0, 7, ["a"]]:
            self.refused(NoText, "text", thing, rank_of, layout, thing)
            self.refused(NoText, "text", thing, from_text, layout, thing)

    def test_what_is_no_place(self):
        for layout in (Layout([Fixed(1)], []), Layout([Listed([""])], []), Layout([Fixed(20)] * 3, ["", ""])):
            many = count_rows(layout)
            wrong = [-1, -many, many, many + 1, 10 ** 100, None, "", "0"] + built_in_things() + own_things()
            for thing in wrong:
                with self.assertRaises(NoPlace) as caught:
                    row_at(layout, thing)
                self.assertIs(caught.exception.place, thing)

    def test_what_is_no_row(self):
        layout = Layout([Fixed(1), Word("ab", 0, 2)], ["!"])
        cases = [((), 0), ([1], 1), ((1, "ab", ""), 2), ((10, "c"), 0), ((1, "aba"), 1), ((1, None), 1), ((True, "a"), 0),
                 ((-1, "a"), 0), (("1", "a"), 0)]
        cases += [(thing, -1) for thing in built_in_things() + own_things() + [None, 0, "", "1!a"]
                  if not isinstance(thing, (list, tuple))]
        for row, place in cases:
            self.refused(NoRow, "place", place, place_of, layout, row)


if __name__ == "__main__":
    unittest.main()
