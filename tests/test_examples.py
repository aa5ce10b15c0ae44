"""The examples of the document."""

import unittest

from jointkeys.closing import closed_joints
from jointkeys.commons import common_text
from jointkeys.counting import count_rows, place_of, rank_of, row_at
from jointkeys.desk import Desk
from jointkeys.errors import BadField, Hopeless, NoRow, NoText, NotWhole
from jointkeys.fields import Fixed, Listed, Marked, Number, Word, is_before, text_of, value_of
from jointkeys.keeping import alike_rows, mistaken_row, strangers, unsorted_rows
from jointkeys.kinds import is_whole, least_texts
from jointkeys.layouts import Layout, row_text
from jointkeys.layouttexts import layout_text
from jointkeys.mending import Wish, broken_stretches, mended
from jointkeys.reading import count_ways, read_greedily, rows_with
from jointkeys.stores import Store


class Examples(unittest.TestCase):

    def test_text_of_fixed(self):
        self.assertEqual(text_of(Fixed(3), 7), "007")

    def test_value_of_number(self):
        with self.assertRaises(NoText) as caught:
            value_of(Number(0, None), "007")
        self.assertEqual(caught.exception.text, "007")

    def test_text_of_marked(self):
        self.assertEqual(text_of(Marked("1", "2", Number(5, 9)), 7), "27")

    def test_bad_word(self):
        with self.assertRaises(BadField) as caught:
            Word("a!", 0, 2)
        self.assertEqual(caught.exception.what, "signs")

    def test_is_before_of_listed(self):
        self.assertIs(is_before(Listed(["b", "a"]), "b", "a"), True)

    def test_least_texts_of_marked(self):
        self.assertEqual(least_texts(Marked("N", "m", Word("ab", 0, None)), 4), ["N", "m", "ma", "mb"])

    def test_is_whole(self):
        answers = (is_whole(Word("ab", 0, 2)), is_whole(Listed(["b", "bbb"])), is_whole(Number(0, 100)))
        self.assertEqual(answers, (True, False, False))

    def test_row_text(self):
        layout = Layout([Word("ab", 1, None), Number(0, None)], [""])
        self.assertEqual(row_text(layout, ["a", 12]), "a12")

    def test_no_row(self):
        with self.assertRaises(NoRow) as caught:
            row_text(Layout([Fixed(2), Fixed(2)], ["!"]), [5, 100])
        self.assertEqual(caught.exception.place, 1)

    def test_reading(self):
        layout = Layout([Word("ab", 0, None), Word("ab", 0, None)], [""])
        answers = (rows_with(layout, "ab"), count_ways(layout, "a" * 100), read_greedily(layout, "ab"))
        self.assertEqual(answers, ([("", "ab"), ("a", "b"), ("ab", "")], 101, ("ab", "")))

    def test_alike_rows(self):
        layout = Layout([Word("ab", 0, None), Word("ab", 0, None)], [""])
        pair = alike_rows(layout)
        text = row_text(layout, pair.one)
        self.assertEqual((text == row_text(layout, pair.other), len(text)), (True, 1))

    def test_unsorted_rows(self):
        layout = Layout([Number(0, None)], [])
        pair = unsorted_rows(layout)
        texts = row_text(layout, pair.one) + row_text(layout, pair.other)
        self.assertEqual((pair.one < pair.other, len(texts)), (True, 3))

    def test_strangers(self):
        pair = strangers(Layout([Listed(["ann", "anna"]), Fixed(2)], [""]), 0)
        self.assertEqual((pair.one[0], pair.other[0]), ("ann", "anna"))

    def test_mistaken_row(self):
        layout = Layout([Listed(["a", "ab"]), Listed(["b", "c"])], [""])
        self.assertEqual(mistaken_row(layout), ("a", "b"))

    def test_broken_stretches(self):
        fields = [Word("ab", 0, None), Word("ab", 0, None), Fixed(2)]
        wish = Wish(True, [])
        found = [(one.kind, one.first, one.last) for one in broken_stretches(fields, wish)]
        self.assertEqual((found, mended(fields, wish).joints), ([("alike", 0, 1)], (0,)))

    def test_mended(self):
        fields = [Fixed(2), Word("a", 1, 3), Fixed(2)]
        answers = (mended(fields, Wish(True, [])).joints, mended(fields, Wish(True, [1])).joints)
        self.assertEqual(answers, ((), (1,)))

    def test_hopeless(self):
        with self.assertRaises(Hopeless) as caught:
            mended([Number(1, None)], Wish(True, []))
        self.assertEqual(caught.exception.index, 0)

    def test_not_whole(self):
        with self.assertRaises(NotWhole) as caught:
            mended([Number(0, None)], Wish(True, []))
        self.assertEqual(caught.exception.index, 0)

    def test_closed_joints(self):
        self.assertEqual(closed_joints([Listed(["a", "ab"]), Listed(["b", "bbb"]), Listed(["c"])]), ("!", "!"))
        self.assertIs(closed_joints([Number(0, None)]), None)

    def test_count_rows(self):
        self.assertIs(count_rows(Layout([Fixed(20), Fixed(20), Fixed(20)], ["", "!"])) == 10 ** 60, True)

    def test_places(self):
        layout = Layout([Listed(["b", "a"]), Fixed(1)], [""])
        answers = (row_at(layout, 12), rank_of(layout, "b"), place_of(layout, ["a", 3]))
        self.assertEqual(answers, (("b", 2), 10, 3))

    def test_common_text(self):
        one = Layout([Word("ab", 1, 2), Fixed(1)], [""])
        other = Layout([Listed(["a"]), Listed(["b0", "7"])], [""])
        self.assertEqual(common_text(one, other), "a7")

    def test_store(self):
        store = Store(Layout([Word("ab", 0, None), Word("ab", 0, None)], [""]))
        store.put(["a", "bb"], 1)
        store.put(["ab", "b"], 2)
        answers = (store.size(), store.get(["a", "bb"]), store.scan([""]))
        self.assertEqual(answers, (1, 2, [(("ab", "b"), 2)]))

    def test_scan(self):
        store = Store(Layout([Listed(["ann", "anna"]), Fixed(1)], [""]))
        store.put(["anna", 2], 20)
        store.put(["ann", 1], 10)
        self.assertEqual(store.scan(["ann"]), [(("ann", 1), 10), (("anna", 2), 20)])

    def test_layout_text(self):
        layout = Layout([Marked("N", "m", Number(1, None)), Listed(["a", ""])], ["!"])
        self.assertEqual(layout_text(layout), "marked:N:m:number:1:* ! listed:a,")

    def test_desk(self):
        desk = Desk(Layout([Fixed(2)], []))
        answers = (desk.tell("put 7 5"), desk.tell("put 07 5"), desk.tell("all"))
        self.assertEqual(answers, (["kept"], ["refused norow"], ["7 5"]))

    def test_moving_desk(self):
        desk = Desk(Layout([Word("ab", 0, None), Word("ab", 0, None)], [""]))
        answers = (desk.tell("mend plain"), desk.tell("move word:ab:0:* ! word:ab:0:*"), desk.tell("alike"))
        self.assertEqual(answers, (["0"], ["moved"], ["none"]))


if __name__ == "__main__":
    unittest.main()
