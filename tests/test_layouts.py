import unittest
from itertools import product
from random import Random

from jointkeys.errors import BadLayout, NoRow
from jointkeys.fields import Ended, Fixed, Listed, Marked, Number, Word
from jointkeys.keeping import Pair
from jointkeys.layouts import Layout, bare_layout, is_ahead, row_text
from tests.helpers import SIGNS, built_in_things, neither_text_nor_number, own_things, some_fields
from tests.rowsearch import Rows, small_layouts, some_layout


def all_kinds():
    return Layout(some_fields(), ["", "!", "~", "", ""])


def no_rows(layout, row):
    """Wrong rows made of a right one, each with the place that is told."""
    row = list(row)
    found = [(thing, -1) for thing in built_in_things() + own_things() + [None, 0, 5, "", "ab"]
             if not isinstance(thing, (list, tuple))]
    found += [(row[:length], length) for length in range(len(row))]
    found += [(row + [thing], len(row)) for thing in ("a", 1, None, [], row)]
    found += [(row + ["a", "b"], len(row))]
    for place, field in enumerate(layout.fields):
        for thing in neither_text_nor_number() + ["Z", -1, "!", "~", "a ", " "]:
            wrong = list(row)
            wrong[place] = thing
            found.append((wrong, place))
            found.append((tuple(wrong[:place + 1]), place))
            found.append((wrong + [1], place))
            found.append((wrong[:place + 1] + [[]] * (len(row) - place - 1), place))
        if not isinstance(field, Marked):
            found.append((row[:place] + [None] + row[place + 1:], place))
    return found


class MakingLayouts(unittest.TestCase):

    def refused(self, what, *given):
        with self.assertRaises(BadLayout) as caught:
            Layout(*given)
        self.assertEqual(caught.exception.what, what, given)
        named = dict(zip(("joints", "fields"), reversed(given)))
        with self.assertRaises(BadLayout) as caught:
            Layout(**named)
        self.assertEqual(caught.exception.what, what, given)

    def refused_fields(self, fields):
        for joints in ([], [""], None, ["a"]):
            self.refused("fields", fields, joints)
        with self.assertRaises(BadLayout) as caught:
            bare_layout(fields)
        self.assertEqual(caught.exception.what, "fields", fields)

    def test_no_fields(self):
        no_sequence = [thing for thing in built_in_things() + own_things() if not isinstance(thing, (list, tuple))]
        for thing in no_sequence + [None, "", "ab", 0, 1, [], (), {Fixed: 1}, iter([Fixed(1)])]:
            self.refused_fields(thing)

    def test_something_that_is_no_field(self):
        no_fields = own_things()[6:] + built_in_things() + [None, "a", "", 0, 1, [Fixed(1)], (Fixed(1),)]
        for thing in no_fields:
            for fields in ([thing], (thing, Fixed(1)), [Fixed(1), thing], [Fixed(1)] * 7 + [thing]):
                self.refused_fields(fields)

    def test_no_joints(self):
        for thing in built_in_things() + own_things() + [None, "", "!", "~", "!~", 0, 1, 2]:
            if not isinstance(thing, (list, tuple)):
                self.refused("joints", [Fixed(1)], thing)
                self.refused("joints", [Fixed(1)] * 2, thing)

    def test_another_number_of_joints(self):
        for many in range(1, 9):
            for joints in range(10):
                if joints != many - 1:
                    self.refused("joints", [Fixed(1)] * many, ["!"] * joints)
                    self.refused("joints", (Fixed(1),) * many, ("",) * joints)

    def test_something_that_is_no_joint(self):
        wrong = [None, 0, 1, "a", "!!", "!~", "~~", " ", "-", "\x00", "\n", "\u0021\u0301", [""], ("!",)]
        for thing in wrong + neither_text_nor_number():
            self.refused("joints", [Fixed(1)] * 2, [thing])
            self.refused("joints", [Fixed(1)] * 3, ["", thing])
            self.refused("joints", [Fixed(1)] * 3, (thing, "~"))

    def test_all_joints(self):
        for many in range(1, 9):
            for joints in list(product(["", "!", "~"], repeat=many - 1))[:200]:
                layout = Layout([Fixed(1)] * many, list(joints))
                self.assertEqual(layout.joints, joints)
                digits = list(range(many))
                self.assertEqual(row_text(layout, digits),
                                 "".join(str(digit) + joint for digit, joint in zip(digits, joints + ("",))))

    def test_by_position_and_by_name(self):
        fields = some_fields()
        made = Layout(joints=["!"] * 5, fields=fields)
        self.assertEqual(made, Layout(fields, ["!"] * 5))
        self.assertEqual((made.fields, made.joints), (tuple(fields), ("!",) * 5))
        self.assertEqual(bare_layout(fields=fields), bare_layout(fields))

    def test_own_tuples(self):
        fields, joints = [Fixed(1), Fixed(2)], ["!"]
        layout = Layout(fields, joints)
        fields.append(Fixed(3))
        fields[0] = Word("a", 0, 1)
        joints[0] = "~"
        self.assertEqual((layout.fields, layout.joints), ((Fixed(1), Fixed(2)), ("!",)))
        self.assertIsInstance(layout.fields, tuple)
        self.assertIsInstance(layout.joints, tuple)
        self.assertEqual((fields, joints), ([Word("a", 0, 1), Fixed(2), Fixed(3)], ["~"]))
        bare = bare_layout(fields)
        fields.pop()
        self.assertEqual(bare.fields, (Word("a", 0, 1), Fixed(2), Fixed(3)))

    def test_bare(self):
        for many in range(1, 9):
            fields = (some_fields() * 2)[:many]
            for given in (fields, tuple(fields)):
                bare = bare_layout(given)
                self.assertEqual((bare.fields, bare.joints), (tuple(fields), ("",) * (many - 1)))
                self.assertEqual(bare, Layout(fields, [""] * (many - 1)))

    def test_equality(self):
        layouts = [Layout([Fixed(1)], []), Layout([Fixed(2)], []), Layout([Number(0, 9)], [])]
        layouts += [Layout([Fixed(1)] * 2, [joint]) for joint in ("", "!", "~")]
        layouts += [Layout([Fixed(1), Fixed(2)], ["!"]), Layout([Fixed(2), Fixed(1)], ["!"]), all_kinds()]
        again = [Layout(list(layout.fields), list(layout.joints)) for layout in layouts]
        for here, one in enumerate(layouts):
            for there, other in enumerate(again):
                self.assertIs(one == other, here == there)
                self.assertIs(one != other, here != there)

    def test_never_equal_to_other_things(self):
        class LikeLayout(Layout):
            pass

        layout = Layout([Fixed(1)], [])
        for thing in built_in_things() + own_things() + [None, "", ((Fixed(1),), ()), LikeLayout([Fixed(1)], [])]:
            self.assertIs(layout == thing, False)
            self.assertIs(thing == layout, False)
            self.assertIs(layout != thing, True)


class RowTexts(unittest.TestCase):

    def test_texts_of_all_rows(self):
        for layout in small_layouts():
            known = Rows(layout)
            for row, text in zip(known.rows, known.texts):
                self.assertEqual(row_text(layout, row), text)
                self.assertEqual(row_text(layout, list(row)), text)

    def test_all_kinds_of_fields(self):
        layout = all_kinds()
        self.assertEqual(row_text(layout, ["ab", 0, 7, "", "", None]), "ab0!07~.N")
        self.assertEqual(row_text(layout, ("", 100, 99, "a", "ba", 5)), "100!99~aba.m5")
        self.assertEqual(row_text(row=["", 1, 0, "a", "", 1], layout=layout), "1!00~a.m1")

    def test_one_field(self):
        self.assertEqual(row_text(Layout([Word("ab", 0, 2)], []), [""]), "")
        self.assertEqual(row_text(Layout([Number(0, None)], []), (10,)), "10")

    def test_empty_texts(self):
        fields = [Listed([""])] * 8
        self.assertEqual(row_text(bare_layout(fields), [""] * 8), "")
        self.assertEqual(row_text(Layout(fields, ["!", "", "~", "", "", "!", "!"]), [""] * 8), "!~!!")

    def test_large_values(self):
        layout = Layout([Number(0, None)] * 4, ["!", "", "~"])
        digits = ["9" * 1000, "1" + "0" * 999, "1234567890" * 99 + "5", "0"]
        numbers = [10 ** 1000 - 1, 10 ** 999, 0, 0]
        for digit in digits[2]:
            numbers[2] = numbers[2] * 10 + int(digit)
        self.assertEqual(row_text(layout, numbers), digits[0] + "!" + digits[1] + digits[2] + "~0")
        layout = Layout([Word("ab", 0, None), Ended("ab", "-", 0, None)], ["!"])
        self.assertEqual(row_text(layout, ["ab" * 2000, "b" * 2000]), "ab" * 2000 + "!" + "b" * 2000 + "-")
        layout = Layout([Fixed(20)] * 8, ["!"] * 7)
        self.assertEqual(row_text(layout, [10 ** 20 - 1] * 8), "!".join(["9" * 20] * 8))

    def refused(self, layout, row, place):
        with self.assertRaises(NoRow) as caught:
            row_text(layout, row)
        self.assertEqual(caught.exception.place, place, row)

    def test_what_is_no_row(self):
        layout = all_kinds()
        for wrong, place in no_rows(layout, ("ab", 0, 7, "", "", None)):
            self.refused(layout, wrong, place)
        layout = Layout([Listed(["a", ""])], [])
        for wrong, place in no_rows(layout, ("",)):
            self.refused(layout, wrong, place)

    def test_first_place_is_told(self):
        layout = Layout([Fixed(1), Word("ab", 0, 1), Number(1, None)], ["", "!"])
        cases = [([], 0), ([10], 0), ([1], 1), ([1, "c"], 1), ([1, "a"], 2), ([1, "a", 0], 2), ([1, "a", 1, 1], 3),
                 ([1, "a", 0, 1], 2), ([10, "c", 0, 1], 0), ([1, "c", 0], 1), (["1", 1, "1"], 0), ([True, "a", 1], 0),
                 ([1, "a", 1, 1, 1], 3), ([[1, "a", 1]], 0)]
        for row, place in cases:
            self.refused(layout, row, place)
            self.refused(layout, tuple(row), place)

    def test_arguments_stay(self):
        row = ["ab", 0, 7, "", "", None]
        layout = all_kinds()
        first = row_text(layout, row)
        self.refused(layout, row + [1], 6)
        self.assertEqual((row, layout), (["ab", 0, 7, "", "", None], all_kinds()))
        self.assertEqual(row_text(layout, row), first)


class OrderOfRows(unittest.TestCase):

    def test_all_rows_of_small_layouts(self):
        random = Random(7)
        for layout in small_layouts()[::9] + [some_layout(random, 4, 40) for _ in range(60)]:
            rows = Rows(layout).rows[:40]
            for here, one in enumerate(rows):
                for there, other in enumerate(rows):
                    self.assertIs(is_ahead(layout, one, list(other)), here < there)

    def test_not_the_order_of_texts(self):
        layout = Layout([Number(0, None), Listed(["b", "a"])], ["!"])
        self.assertIs(is_ahead(layout, [9, "a"], [10, "b"]), True)
        self.assertIs(is_ahead(layout, [10, "b"], [9, "a"]), False)
        self.assertIs(is_ahead(layout, (9, "b"), (9, "a")), True)
        self.assertIs(is_ahead(layout, (9, "a"), (9, "b")), False)
        self.assertIs(is_ahead(layout, (9, "a"), [9, "a"]), False)

    def test_first_unlike_field_decides(self):
        layout = bare_layout([Word("ab", 0, None)] * 8)
        for place in range(8):
            one, other = ["b"] * 8, ["b"] * place + ["ba"] + [""] * (7 - place)
            self.assertIs(is_ahead(layout, one, other), True)
            self.assertIs(is_ahead(layout, other=one, one=other), False)

    def test_none_stands_first(self):
        layout = Layout([Marked("z", "a", Fixed(20)), Marked("N", "m", Listed(["b", "a"]))], [""])
        self.assertIs(is_ahead(layout, (None, "a"), (0, "b")), True)
        self.assertIs(is_ahead(layout, (0, "b"), (None, None)), False)
        self.assertIs(is_ahead(layout, (5, None), (5, "b")), True)
        self.assertIs(is_ahead(layout, (5, "a"), (5, "b")), False)

    def test_large_numbers(self):
        layout = Layout([Number(0, None)] * 2, ["!"])
        large = 10 ** 1000 - 1
        self.assertIs(is_ahead(layout, (large - 1, large), (large, 0)), True)
        self.assertIs(is_ahead(layout, (large, large), (large, large - 1)), False)

    def test_what_is_no_row(self):
        layout = all_kinds()
        row = ("ab", 0, 7, "", "", None)
        for wrong, place in no_rows(layout, row):
            for one, other in ((wrong, row), (row, wrong), (wrong, []), (wrong, None)):
                with self.assertRaises(NoRow) as caught:
                    is_ahead(layout, one, other)
                self.assertEqual(caught.exception.place, place, (one, other))

    def test_first_that_is_none_is_told(self):
        layout = Layout([Fixed(1)] * 3, ["", ""])
        for one, other, place in (([1, 1, 10], [10, 1, 1], 2), ([1], None, 1), (None, [1], -1), ([1] * 3, [1], 1)):
            with self.assertRaises(NoRow) as caught:
                is_ahead(layout, one, other)
            self.assertEqual(caught.exception.place, place)


class Pairs(unittest.TestCase):

    def test_own_tuples(self):
        one, other = ["a", 1], ["b", 2]
        pair = Pair(one, other)
        one[0] = "x"
        other.append(3)
        self.assertEqual((pair.one, pair.other), (("a", 1), ("b", 2)))
        self.assertIsInstance(pair.one, tuple)
        self.assertIsInstance(pair.other, tuple)
        self.assertEqual(Pair([["a", ["b"]]], ("c",)).one, (("a", ("b",)),))
        self.assertEqual(Pair(other=["b"], one=("a",)), Pair(["a"], ("b",)))

    def test_equality(self):
        pairs = [Pair(("a",), ("b",)), Pair(("b",), ("a",)), Pair(("a",), ("a",)), Pair((), ("a",)),
                 Pair(("a", None), ("b",)), Pair((1,), (2,)), Pair(("1",), ("2",))]
        for here, one in enumerate(pairs):
            for there, other in enumerate(pairs):
                again = Pair(list(other.one), list(other.other))
                self.assertIs(one == again, here == there)
                self.assertIs(one != again, here != there)

    def test_never_equal_to_other_things(self):
        class LikePair(Pair):
            pass

        pair = Pair(("x",), ("y",))
        for thing in built_in_things() + own_things() + [None, (("x",), ("y",)), LikePair(("x",), ("y",))]:
            self.assertIs(pair == thing, False)
            self.assertIs(thing == pair, False)
            self.assertIs(pair != thing, True)


class AllSigns(unittest.TestCase):

    def test_separators_stand_around_all_signs(self):
        for sign in SIGNS:
            layout = Layout([Word(SIGNS, 0, 2)] * 2, ["!"])
            self.assertLess(row_text(layout, ["", sign]), row_text(layout, [sign, ""]))
            layout = Layout([Word(SIGNS, 0, 2)] * 2, ["~"])
            self.assertGreater(row_text(layout, ["", sign]), row_text(layout, [sign, ""]))


if __name__ == "__main__":
    unittest.main()
