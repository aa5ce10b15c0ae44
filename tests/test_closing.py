import unittest
from itertools import product
from random import Random
from time import perf_counter

from jointkeys.closing import closed_joints
from jointkeys.errors import BadLayout, Hopeless, NotWhole
from jointkeys.fields import Ended, Fixed, Listed, Marked, Number, Word
from jointkeys.keeping import unsorted_rows
from jointkeys.layouts import Layout, bare_layout
from jointkeys.mending import Wish, mended
from tests.helpers import SIGNS, built_in_things, own_things, some_fields
from tests.mendsearch import closed
from tests.rowsearch import some_field, values_of
from tests.test_keeping_large import large_field
from tests.test_mending import MOST_SECONDS, small_fields, told

WORDS = Word("ab", 0, None)
POOL = ["", "a", "b", "ab", "ba", "aa", "bb", "aab", "c", "bbb", "abc"]


def sorted_field(random):
    """A small field that is sorted with a separator behind it, so that separators may help."""
    while True:
        texts = random.sample(POOL, random.randrange(1, 4))
        field = Listed(texts) if random.random() < 0.8 else some_field(random)
        if len(values_of(field)) <= 5 and closed([field, Listed([""])]) is not None:
            return field


def sorted_fields(random, most_fields, most_rows):
    while True:
        fields = [sorted_field(random) for _ in range(random.randrange(2, most_fields + 1))]
        many = 1
        for field in fields:
            many *= len(values_of(field))
        if many <= most_rows:
            return fields


class AgainstAllSeparators(unittest.TestCase):

    def check(self, fields, longest=2):
        joints = closed_joints(fields)
        self.assertEqual(joints, closed(fields, longest), told(fields))
        return joints

    def test_fields_that_are_sorted_alone(self):
        random = Random(17)
        found = {self.check(sorted_fields(random, 4, 60)) for _ in range(500)}
        for joints in (None, ("!",), ("~",), ("", ""), ("!", "~"), ("~", "!"), ("~", "~"), ("!", "!"), ("", "~")):
            self.assertIn(joints, found)

    def test_any_small_fields(self):
        random = Random(18)
        for _ in range(150):
            self.check(small_fields(random, 4, 60))

    def test_more_fields(self):
        random = Random(19)
        for _ in range(30):
            fields = [Listed(random.choice([["a", "ab"], ["b"], ["", "b"], ["b", ""], ["ab"]])) for _ in range(6)]
            if len([field for field in fields if len(field.texts) > 1]) < 6:
                self.check(fields)

    def test_fields_without_an_end(self):
        for fields in ([WORDS], [Number(1, None)], [WORDS, WORDS], [WORDS, Fixed(1)], [WORDS, Listed(["c", ""])],
                       [Listed(["", "c"]), WORDS], [Listed(["a", ""]), WORDS], [Listed(["ab", "a"]), WORDS, WORDS],
                       [Marked("M", "m", Word("b", 0, None)), WORDS],
                       [Ended("bc", "a", 0, None), Word("a", 0, None)], [Word("a", 1, None), Listed(["a"]), Fixed(1)]):
            self.check(fields)


class Answers(unittest.TestCase):

    def test_examples(self):
        fields = [Listed(["a", "ab"]), Listed(["b", "bbb"]), Listed(["c"])]
        self.assertEqual(closed_joints(fields), ("!", "!"))
        self.assertIs(closed_joints([Number(0, None)]), None)

    def test_one_field(self):
        for field in [WORDS, Fixed(20), Number(10, 99), Listed(["a", "ab"]), Ended("bc", "a", 0, None)]:
            self.assertEqual(closed_joints([field]), ())
        for field in [Number(9, 10), Listed(["b", "a"]), Listed(["a", ""]), Ended("ab", "c", 0, 1)]:
            self.assertIs(closed_joints([field]), None)

    def test_none(self):
        # A crossed field stays so; the last field is not closed, so beginnings must come first in it.
        for fields in ([Number(0, 10), Fixed(1)], [Fixed(1)] * 7 + [Number(0, None)], [WORDS, Listed(["ab", "a"])],
                       [Listed(["a", "ab", ""]), Fixed(2)], some_fields()):
            self.assertIs(closed_joints(fields), None)

    def test_high(self):
        self.assertEqual(closed_joints([Listed(["ab", "a"]), Listed(["b"])]), ("~",))
        self.assertEqual(closed_joints([Listed(["ab", "a", ""]), WORDS, Fixed(3)]), ("~", ""))
        self.assertEqual(closed_joints([Listed(["ab", "a"]), Listed(["c", "d"])]), ("",))

    def test_the_least_of_several(self):
        # Either joint would do with either separator.
        fields = [Listed(["a", "abc"]), Listed(["b"]), Listed(["a"])]
        self.assertEqual(closed_joints(fields), closed(fields))
        self.assertEqual(closed_joints([Listed(["a", "ab"]), Listed(["b"]), Listed(["c"])]), ("", "!"))
        self.assertEqual(closed_joints([WORDS, Listed(["b"]), Listed(["b"])]), ("!", ""))

    def test_eight_fields(self):
        self.assertEqual(closed_joints([WORDS] * 8), ("!",) * 7)
        self.assertEqual(closed_joints([Word(SIGNS, 0, 12)] * 8), ("!",) * 7)
        self.assertEqual(closed_joints([Fixed(20)] * 8), ("",) * 7)
        self.assertEqual(closed_joints([Listed(["ab", "a", ""])] * 7 + [WORDS]), ("~",) * 7)
        self.assertEqual(closed_joints([Fixed(20)] * 7 + [Word(SIGNS, 0, None)]), ("",) * 7)
        self.assertIs(closed_joints([Listed(["ab", "a", ""])] * 8), None)

    def test_large_fields(self):
        random = Random(20)
        found = 0
        for _ in range(400):
            signs = random.choice(["ab", "01", "a0", "abc"])
            fields = [large_field(random, signs) for _ in range(8)]
            fields = [field for field in fields if closed_joints([field]) is not None] or [WORDS]
            start = perf_counter()
            joints = closed_joints(fields)
            self.assertLess(perf_counter() - start, MOST_SECONDS)
            if joints is None:
                continue
            found += 1
            self.assertIs(unsorted_rows(Layout(fields, joints)), None)
            many = len(joints) - joints.count("")
            if many == 1:
                for other in self.neighbours(joints):
                    self.assertIsNot(unsorted_rows(Layout(fields, other)), None)
        self.assertGreater(found, 100)

    def neighbours(self, joints):
        """No separator, and those with one that are less."""
        several = [[""] * at + [separator] + [""] * (len(joints) - at - 1)
                   for at in range(len(joints)) for separator in ("!", "~")]
        return [[""] * len(joints)] + [each for each in several if tuple(each) < joints]

    def test_mends_of_whole_fields(self):
        # [17]: for whole fields that can be mended it has LOW at the joints of the mend, and nothing else.
        random = Random(21)
        found = 0
        for at in range(300):
            fields = small_fields(random, 6, 10 ** 9) if at % 2 else [large_field(random, "ab") for _ in range(8)]
            try:
                joints = mended(fields, Wish(True, ())).joints
            except (NotWhole, Hopeless):
                continue
            found += 1
            expected = tuple("!" if k in joints else "" for k in range(len(fields) - 1))
            self.assertEqual(closed_joints(fields), expected)
        self.assertGreater(found, 20)

    def test_blocks_stay_sorted_without_their_beginning(self):
        random = Random(22)
        for _ in range(150):
            fields = sorted_fields(random, 5, 200)
            for separator in ("", "!", "~"):
                kept = [unsorted_rows(self.closed_block(fields[at:], separator)) is None for at in range(len(fields))]
                self.assertEqual(kept, sorted(kept))

    def closed_block(self, fields, separator):
        if separator == "":
            return bare_layout(fields)
        return Layout(fields + [Listed([""])], [""] * (len(fields) - 1) + [separator])


class Arguments(unittest.TestCase):

    def test_what_is_no_list_of_fields(self):
        wrong = [thing for thing in built_in_things() + own_things() + [None, 0, "", "ab"]
                 if not isinstance(thing, (list, tuple))]
        for fields in wrong + [[], (), ["a"], [Fixed(1), None], (Fixed(1), Layout([Fixed(1)], []))]:
            with self.assertRaises(BadLayout) as caught:
                closed_joints(fields)
            self.assertEqual(caught.exception.what, "fields")

    def test_lists_and_tuples_by_name(self):
        fields = [WORDS, Listed(["ab", "a"]), WORDS]
        joints = closed_joints(fields=fields)
        self.assertEqual(joints, closed_joints(tuple(fields)))
        self.assertIsInstance(joints, tuple)
        self.assertEqual(fields, [WORDS, Listed(["ab", "a"]), WORDS])
        self.assertIs(unsorted_rows(Layout(fields, joints)), None)

    def test_every_answer_is_a_tuple_of_joints(self):
        for one, other in product([WORDS, Fixed(1), Listed(["a", "ab"]), Listed(["ab", "a"])], repeat=2):
            joints = closed_joints([one, other])
            if joints is not None:
                self.assertIn(joints, [("",), ("!",), ("~",)])


if __name__ == "__main__":
    unittest.main()
