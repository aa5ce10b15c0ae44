import unittest
from itertools import combinations
from random import Random
from time import perf_counter

from jointkeys.errors import BadLayout, Hopeless, NoJoint, NotWhole
from jointkeys.fields import Ended, Fixed, Listed, Marked, Number, Word
from jointkeys.keeping import Pair, alike_rows, strangers, unsorted_rows
from jointkeys.kinds import is_whole
from jointkeys.layouts import Layout, bare_layout, is_ahead, row_text
from jointkeys.mending import Mend, Stretch, Wish, broken_stretches, is_mend, mended
from tests.helpers import SIGNS, built_in_things, own_things, some_fields
from tests.mendsearch import Stretches, grants, joints_of, sets_of_joints
from tests.rowsearch import some_field, values_of
from tests.test_keeping_large import large_field

WORDS = Word("ab", 0, None)
MOST_SECONDS = 5


def small_fields(random, most_fields, most_rows, pool=("", "a", "b", "ab", "ba", "bb", "aab")):
    """Up to this many fields, with up to this many rows."""
    while True:
        fields = [some_field(random) if random.random() < 0.6 else Listed(random.sample(pool, random.randrange(1, 4)))
                  for _ in range(random.randrange(1, most_fields + 1))]
        many = 1
        for field in fields:
            many *= len(values_of(field))
        if many <= most_rows:
            return fields


def some_scans(random, fields):
    """Joints in any order, some of them twice."""
    return [random.randrange(len(fields) - 1) for _ in range(random.randrange(4))] if len(fields) > 1 else []


def kinds_and_ends(stretches):
    return [(each.kind, each.first, each.last) for each in stretches]


class AgainstAllRows(unittest.TestCase):
    """Small fields, compared with all rows of all their stretches and all sets of joints."""

    def check_list(self, fields, known, wish, longest=2):
        found = broken_stretches(fields, wish)
        self.assertEqual(kinds_and_ends(found), known.least(wish.order, wish.scans), told(fields))
        for each in found:
            self.assertIs(type(each), Stretch)
            self.assertIs(type(each.pair), Pair)
            self.check_pair(fields, each)
        return found

    def check_pair(self, fields, stretch):
        layout = bare_layout(fields[stretch.first:stretch.last + 1])
        one, other = stretch.pair.one, stretch.pair.other
        self.assertNotEqual(one[0], other[0])
        text, other_text = row_text(layout, one), row_text(layout, other)
        if stretch.kind == "open":
            self.assertTrue(other_text.startswith(text) and text != other_text)
            return
        self.assertIs(is_ahead(layout, one, other), True)
        if stretch.kind == "alike":
            self.assertEqual(text, other_text)
        else:
            unlike = [(a, b) for a, b in zip(text, other_text) if a != b]
            self.assertGreater(unlike[0][0], unlike[0][1])

    def check_mend(self, fields, wish, stretches):
        granting = [joints for joints in sets_of_joints(fields) if grants(fields, joints, wish.order, wish.scans)]
        unwhole = [index for index, field in enumerate(fields) if not is_whole(field)]
        alone = [each.first for each in stretches if each.kind == "crossed" and each.first == each.last]
        if wish.order and (unwhole or alone):
            with self.assertRaises(NotWhole if unwhole else Hopeless) as caught:
                mended(fields, wish)
            self.assertEqual(caught.exception.index, (unwhole or alone)[0])
            if alone:
                self.assertEqual(granting, [])
            return
        mend = mended(fields, wish)
        self.assertIs(type(mend), Mend)
        self.assertIn(mend.joints, granting)
        fewest = min(map(len, granting))
        self.assertEqual((len(mend.joints), len(mend.stretches)), (fewest, fewest))
        self.assertEqual([each for each in stretches if each in mend.stretches], list(mend.stretches))
        chosen = [set(joints_of(each.kind, each.first, each.last)) for each in mend.stretches]
        self.assertEqual([max(joints) for joints in chosen], list(mend.joints))
        self.assertFalse(any(one & other for one, other in combinations(chosen, 2)))
        for joints in sets_of_joints(fields):
            expected = joints in granting and len(joints) == fewest
            self.assertIs(is_mend(fields, wish, Mend(joints, mend.stretches)), expected)
        # [15]: a set grants the wish exactly if each broken stretch has one of its joints in it.
        broken = [set(joints_of(*each)) for each in Stretches(fields).for_wish(wish.order, wish.scans)]
        for joints in sets_of_joints(fields):
            self.assertIs(joints in granting, all(own & set(joints) for own in broken))

    def test_small_fields(self):
        random = Random(14)
        for _ in range(220):
            fields = small_fields(random, 5, 50)
            known = Stretches(fields)
            for order in (True, False):
                wish = Wish(order, some_scans(random, fields))
                self.check_mend(fields, wish, self.check_list(fields, known, wish))

    def test_more_fields(self):
        random = Random(15)
        for _ in range(40):
            fields = [Listed(random.sample(["", "a", "b", "ab", "ba", "bb"], random.choice([1, 1, 2])))
                      for _ in range(random.randrange(5, 9))]
            if len([field for field in fields if len(field.texts) > 1]) > 5:
                continue
            known = Stretches(fields)
            for order in (True, False):
                self.check_list(fields, known, Wish(order, some_scans(random, fields)))

    def test_fields_without_an_end(self):
        words, numbers = Word("ab", 0, None), Number(1, None)
        for fields in ([words], [numbers], [words, words], [words, Number(0, None)], [numbers, Fixed(1)],
                       [numbers, Listed(["1", "12", ""])], [Ended("ab", "-", 0, None), words],
                       [Listed(["a", ""]), words], [Listed(["b", "a"]), words, Listed(["", "a"])],
                       [Marked("N", "m", Word("a", 1, None)), Listed(["a", "b"])],
                       [Word("a", 0, None), Word("b", 0, 1), Listed(["", "a"])]):
            known = Stretches(fields, 2)
            for order in (True, False):
                for scans in ([], range(len(fields) - 1)):
                    self.check_list(fields, known, Wish(order, list(scans)))


def told(fields):
    return [(field.__class__.__name__, vars(field)) for field in fields]


class BrokenStretches(unittest.TestCase):

    def of(self, fields, order, scans=()):
        return kinds_and_ends(broken_stretches(fields, Wish(order, scans)))

    def test_nothing_is_broken(self):
        for fields in ([WORDS], [Fixed(20)] * 8, [Word(SIGNS, 12, 12)] * 8, [Ended("bc", "a", 0, None)] * 8,
                       [Fixed(2), Word("a", 1, 3)]):
            self.assertEqual(broken_stretches(fields, Wish(True, [])), [])
            self.assertEqual(broken_stretches(fields, Wish(False, range(0))), [])

    def test_order_wished_or_not(self):
        fields = [Fixed(1), Listed(["b", "ab"])]
        self.assertEqual(self.of(fields, True), [("crossed", 1, 1)])
        self.assertEqual(self.of(fields, False), [])
        fields = [Listed(["a", "ab"]), Listed(["c", "x"])]
        self.assertEqual(self.of(fields, True), [("crossed", 0, 1)])
        self.assertEqual(self.of(fields, False), [])

    def test_a_crossed_field_alone(self):
        # It has no joint, and with the field behind it there is one.
        self.assertEqual(self.of([Number(1, None)], True), [("crossed", 0, 0)])
        self.assertEqual(self.of([Number(1, None)], False), [])
        self.assertEqual(self.of([Number(1, 10), Listed([""])], True), [("crossed", 0, 0), ("crossed", 0, 1)])
        self.assertEqual(self.of([Listed([""]), Number(1, 10)], True), [("crossed", 1, 1)])
        self.assertEqual(self.of([Listed(["b", "a"])] * 3, True),
                         [("crossed", 0, 0), ("crossed", 0, 1), ("crossed", 1, 1), ("crossed", 1, 2), ("crossed", 2, 2)])
        self.assertEqual(self.of([Marked("z", "a", Fixed(1))], True), [("crossed", 0, 0)])
        self.assertEqual(self.of([Ended("ab", "c", 0, None)], True), [("crossed", 0, 0)])

    def test_first_kind_of_those_with_the_same_joints(self):
        alike = [Listed(["", "a"]), Listed(["", "a"])]
        self.assertEqual(self.of(alike, True, [0]), [("alike", 0, 1)])
        crossed = [Listed(["", "a"]), Listed(["b"])]
        self.assertEqual(self.of(crossed, True, [0]), [("crossed", 0, 1)])
        self.assertEqual(self.of(crossed, False, [0]), [("open", 0, 0)])
        self.assertEqual(self.of([Number(1, None), Number(1, None)], True, [0]), [("crossed", 0, 0), ("alike", 0, 1),
                                                                              ("crossed", 1, 1)])

    def test_scans(self):
        fields = [Listed(["", "a"]), Listed(["b"]), Fixed(1)]
        self.assertEqual(self.of(fields, False), [])
        self.assertEqual(self.of(fields, False, [0]), [("open", 0, 0)])
        self.assertEqual(self.of(fields, False, [1]), [])
        fields = [Listed(["a", "aab"]), Listed(["ab", "c"]), Listed(["a", "x"])]
        self.assertEqual(self.of(fields, False, []), [])
        self.assertEqual(self.of(fields, False, [1]), [("open", 0, 1)])
        self.assertEqual(self.of(fields, False, [1, 0, 1]), [("open", 0, 0)])
        fields = [WORDS, Listed(["c"]), WORDS, Listed(["d", "de"]), Fixed(1)]
        self.assertEqual(self.of(fields, False, [3, 2, 0, 3]), [("open", 0, 0), ("open", 2, 2), ("open", 3, 3)])

    def test_longer_stretches(self):
        fields = [Listed(["a", "ab"]), Listed(["bc"]), Listed(["", "c"])]
        self.assertEqual(self.of(fields, False), [])
        self.assertEqual(self.of(fields, True), [("crossed", 0, 1)])
        fields = [Listed(["a", "abc"]), Listed(["b"]), Listed(["c"]), Listed(["b", ""]), Listed(["c", ""])]
        self.assertEqual(self.of(fields, False), [("alike", 0, 4)])
        fields = [Listed(["", "a" * 8])] + [Listed(["a"])] * 7
        self.assertEqual(self.of(fields, False), [])
        self.assertEqual(self.of(fields, False, range(0, 7)), [("open", 0, 0)])
        self.assertEqual(self.of(fields, False, [6]), [("open", 0, 6)])

    def test_example(self):
        fields = [WORDS, WORDS, Fixed(2)]
        found = broken_stretches(fields, Wish(True, []))
        self.assertEqual(kinds_and_ends(found), [("alike", 0, 1)])
        one, other = found[0].pair.one, found[0].pair.other
        self.assertEqual(one[0] + one[1], other[0] + other[1])
        self.assertLess(one, other)

    def test_shorter_text_first(self):
        for texts in (["a", "ab"], ["ab", "a"]):
            found = broken_stretches([Listed(texts), Listed(["x"])], Wish(False, [0]))
            self.assertEqual(found, [Stretch("open", 0, 0, Pair(("a",), ("ab",)))])

    def test_new_lists_and_tuples(self):
        fields = [WORDS, WORDS]
        first = broken_stretches(fields, Wish(True, [0]))
        self.assertIsInstance(first, list)
        self.assertEqual({type(first[0].pair.one), type(first[0].pair.other)}, {tuple})
        first.append("x")
        self.assertEqual(len(broken_stretches(tuple(fields), Wish(True, (0,)))), 1)


class Mended(unittest.TestCase):

    def joints(self, fields, order, scans=()):
        return mended(fields, Wish(order, scans)).joints

    def test_examples(self):
        self.assertEqual(self.joints([WORDS, WORDS, Fixed(2)], True), (0,))
        fields = [Fixed(2), Word("a", 1, 3), Fixed(2)]
        self.assertEqual((self.joints(fields, True), self.joints(fields, True, [1])), ((), (1,)))

    def test_eight_fields(self):
        self.assertEqual(self.joints([WORDS] * 8, True), tuple(range(7)))
        self.assertEqual(self.joints([WORDS] * 8, False, [6, 6, 0]), tuple(range(7)))
        self.assertEqual(self.joints([Fixed(20)] * 8, True, range(7)), ())
        self.assertEqual(self.joints([WORDS, Fixed(20)] * 4, True), ())
        self.assertEqual(self.joints([WORDS, Listed(["a"])] * 4, True), (1, 3, 5))
        self.assertEqual(self.joints([WORDS, Fixed(20)] * 4, False), ())
        self.assertEqual(self.joints([WORDS, Fixed(20)] * 4, False, range(6)), (0, 2, 4))
        self.assertEqual(self.joints([WORDS, Fixed(20)] * 4, False, [6]), (6,))
        self.assertEqual(self.joints([WORDS, Listed(["c"])] * 4, False), ())

    def test_last_joints_are_taken(self):
        fields = [Listed(["a", "abc"]), Listed(["b"]), Listed(["c"]), Listed(["b", ""]), Listed(["c", ""])]
        mend = mended(fields, Wish(False, []))
        self.assertEqual((mend.joints, kinds_and_ends(mend.stretches)), ((3,), [("alike", 0, 4)]))

    def test_a_stretch_that_has_the_joint_of_the_one_before(self):
        fields = [Listed(["ab", "abc"]), Listed(["a", ""]), Listed(["ca", "a"]), Listed(["a", ""]), Listed(["c"])]
        found = broken_stretches(fields, Wish(False, []))
        self.assertEqual(kinds_and_ends(found), [("alike", 0, 2), ("alike", 1, 3)])
        self.assertEqual(mended(fields, Wish(False, [])), Mend([1], found[:1]))

    def test_one_field(self):
        for field in some_fields() + [Fixed(20), Word(SIGNS, 0, None)]:
            self.assertEqual(mended([field], Wish(False, [])), Mend((), ()))
        self.assertEqual(mended([WORDS], Wish(True, [])), Mend([], []))

    def test_hopeless_and_not_whole(self):
        cases = [
            ([Number(1, None)], Hopeless, 0), ([Number(0, None)], NotWhole, 0), ([Number(0, 100)], NotWhole, 0),
            ([WORDS, Number(1, 10)], Hopeless, 1), ([Number(1, 10), Listed(["ab", "a"])], NotWhole, 1),
            ([Listed(["b", "a"]), Number(0, 101)], NotWhole, 1), ([Listed(["b", "bbb"]), WORDS], NotWhole, 0),
            ([Listed(["b", "a"]), Number(9, 10)], Hopeless, 0), ([Fixed(1)] * 7 + [Ended("ab", "c", 0, 1)], Hopeless, 7),
            ([Marked("z", "a", Fixed(1))], Hopeless, 0), ([Marked("N", "m", Listed(["ab", "a"]))], NotWhole, 0),
        ]
        for fields, kind, index in cases:
            with self.assertRaises(kind) as caught:
                mended(fields, Wish(True, []))
            self.assertEqual(caught.exception.index, index)
            self.assertIs(type(mended(fields, Wish(False, []))), Mend)

    def test_fields_that_are_not_whole_without_order(self):
        self.assertEqual(self.joints([Number(0, None), Number(0, None)], False), (0,))
        self.assertEqual(self.joints([Listed(["b", "bbb"]), Listed(["", "bb"])], False), (0,))
        self.assertEqual(self.joints([Listed(["b", "bbb"]), Listed(["", "b"])], False), ())


class Errors(unittest.TestCase):

    def refused(self, kind, name, expected, call):
        with self.assertRaises(kind) as caught:
            call()
        got = getattr(caught.exception, name)
        self.assertTrue(got is expected or got == expected)

    def calls(self, fields, wish):
        return [lambda: broken_stretches(fields, wish), lambda: mended(fields, wish),
                lambda: is_mend(fields, wish, Mend((), ())), lambda: is_mend(fields, wish, None)]

    def test_what_is_no_list_of_fields(self):
        wrong = [thing for thing in built_in_things() + own_things() + [None, 0, "", "ab"]
                 if not isinstance(thing, (list, tuple))]
        wrong += [[], (), ["a"], [Fixed(1), None], (Fixed(1), Layout([Fixed(1)], []))]
        for fields in wrong:
            for wish in (Wish(True, []), Wish(False, [0, -1])):
                for call in self.calls(fields, wish):
                    self.refused(BadLayout, "what", "fields", call)

    def test_what_is_no_joint(self):
        wrong = [-1, -2, 10 ** 30, None, "", "0", "!"]
        wrong += [thing for thing in built_in_things() + own_things() if not isinstance(thing, list)]
        for fields in ([Fixed(1)], [Number(0, None), WORDS], (WORDS,) * 8):
            many = len(fields) - 1
            for thing in wrong + [many, many + 1]:
                for scans in ([thing], [thing, -1], list(range(many)) + [thing, "x"]):
                    for call in self.calls(fields, Wish(True, scans)):
                        self.refused(NoJoint, "k", thing, call)

    def test_joints_before_fields_that_are_not_whole(self):
        self.refused(NoJoint, "k", 1, lambda: mended([Number(0, None), WORDS], Wish(True, [0, 1])))
        self.refused(NotWhole, "index", 1, lambda: mended([Number(1, None), Number(0, None)], Wish(True, [0])))


class Objects(unittest.TestCase):

    def test_equality(self):
        pair = Pair(("a",), ("b",))
        made = [Wish(True, [0]), Wish(False, [0]), Wish(True, [1]), Wish(True, [0, 1]), Wish(True, []),
                Stretch("alike", 0, 1, pair), Stretch("open", 0, 1, pair), Stretch("alike", 1, 1, pair),
                Stretch("alike", 0, 2, pair), Stretch("alike", 0, 1, Pair(("b",), ("a",))),
                Mend((), ()), Mend((0,), ()), Mend((), (Stretch("alike", 0, 1, pair),)), pair]
        again = [Wish(True, (0,)), Wish(False, (0,)), Wish(True, (1,)), Wish(True, (0, 1)), Wish(True, ()),
                 Stretch("alike", 0, 1, Pair(["a"], ["b"])), Stretch("open", 0, 1, pair), Stretch("alike", 1, 1, pair),
                 Stretch("alike", 0, 2, pair), Stretch("alike", 0, 1, Pair(("b",), ("a",))),
                 Mend([], []), Mend([0], []), Mend([], [Stretch("alike", 0, 1, Pair(["a"], ("b",)))]), pair]
        for at, one in enumerate(made):
            for place, other in enumerate(again):
                self.assertIs(one == other, at == place)
                self.assertIs(one != other, at != place)
            for thing in built_in_things() + [None, 0, "a", (True, (0,))]:
                self.assertFalse(one == thing)

    def test_sequences_are_kept_as_tuples(self):
        scans, joints, stretches = [1, 0], [0], [Stretch("alike", 0, 1, Pair(["a"], ["b"]))]
        wish, mend = Wish(True, scans), Mend(joints, stretches)
        scans.append(2)
        joints.clear()
        stretches.append(None)
        self.assertEqual((wish.order, wish.scans, mend.joints, len(mend.stretches)), (True, (1, 0), (0,), 1))
        self.assertIsInstance(mend.stretches, tuple)

    def test_by_name(self):
        wish = Wish(scans=[0], order=True)
        stretch = Stretch(pair=Pair(("",), ("a",)), last=0, first=0, kind="open")
        mend = Mend(stretches=[stretch], joints=[0])
        fields = [Word("a", 0, 1), Fixed(1)]
        self.assertIs(is_mend(thing=mend, wish=wish, fields=fields), True)
        self.assertEqual(len(broken_stretches(wish=wish, fields=fields)), 1)
        self.assertEqual(mended(wish=wish, fields=fields).joints, (0,))
        self.assertEqual((stretch.kind, stretch.first, stretch.last, stretch.pair), ("open", 0, 0, Pair([""], ["a"])))

    def test_arguments_stay(self):
        fields, wish = [WORDS, WORDS, Fixed(2)], Wish(True, [1, 0, 1])
        mend = mended(fields, wish)
        self.assertIs(is_mend(fields, wish, mend), True)
        self.assertEqual(fields, [Word("ab", 0, None), Word("ab", 0, None), Fixed(2)])
        self.assertEqual((wish, mend), (Wish(True, [1, 0, 1]), mended(tuple(fields), Wish(True, (1, 0, 1)))))
        self.assertEqual(broken_stretches(fields, wish), broken_stretches(fields, wish))


class IsMend(unittest.TestCase):
    fields = [Word("ab", 0, None), Word("ab", 1, None), Fixed(1)]
    stretch = Stretch("alike", 0, 1, Pair(("", "ab"), ("a", "b")))
    open_one = Stretch("open", 1, 1, Pair(("a",), ("ab",)))

    def check(self, expected, joints, stretches, order=False, scans=(), fields=None):
        self.assertIs(is_mend(fields or self.fields, Wish(order, scans), Mend(joints, stretches)), expected)

    def test_right_ones(self):
        self.check(True, [0], [self.stretch])
        self.check(True, (0, 1), (self.stretch, self.open_one), scans=[1])
        self.check(True, (0, 1), (self.open_one, self.stretch), scans=[1, 0, 1])
        self.check(True, [], [], fields=[Number(0, None)])
        self.check(True, [], [], fields=[WORDS], order=True)

    def test_wrong_joints(self):
        for joints in ([], [1], [0, 0], [0, 1], [-1], [2], [True], [False], [0.0], ["0"], [None], "0", 0, None, {0: 0}):
            self.check(False, joints, [self.stretch])
        self.check(False, [1, 0], [self.stretch, self.open_one], scans=[1])
        self.check(False, [0, 1], [self.stretch, self.open_one])

    def test_wrong_stretches(self):
        pair = self.stretch.pair
        wrong = [
            Stretch("open", 0, 1, pair), Stretch("crossed", 0, 1, pair), Stretch("like", 0, 1, pair),
            Stretch(None, 0, 1, pair), Stretch(["alike"], 0, 1, pair), Stretch("alike", 0, 2, pair),
            Stretch("alike", 1, 1, pair), Stretch("alike", -3, -1, pair), Stretch("alike", 0, 3, pair),
            Stretch("alike", False, True, pair), Stretch("alike", 0.0, 1.0, pair), Stretch("alike", "0", "1", pair),
            Stretch("alike", None, 1, pair), Stretch("alike", 0, 1, None), Stretch("alike", 0, 1, ("", "ab")),
            Stretch("alike", 0, 1, (("", "ab"), ("a", "b"))), Stretch("alike", 1, 0, pair),
            Stretch("alike", 0, 1, Pair(("a", "b"), ("", "ab"))), Stretch("alike", 0, 1, Pair(("", "ab"), ("", "ab"))),
            Stretch("alike", 0, 1, Pair(("", "ab"), ("a", "a"))), Stretch("alike", 0, 1, Pair(("", "ab", 1), ("a", "b", 1))),
            Stretch("alike", 0, 1, Pair("ab", "ab")), Stretch("alike", 0, 1, Pair(None, 0)),
            Stretch("alike", 0, 1, Pair(("", "c"), ("c", ""))), Stretch("alike", 0, 1, Pair((), ())),
            Stretch("alike", 0, 2, Pair(("", "ab", 7), ("a", "b", 8))),
            Stretch("alike", 0, 3, Pair(("", "ab", 7), ("a", "b", 7))), Stretch("alike", 0, True, pair),
            Stretch("alike", 0, 1.0, pair), Stretch("alike", 0, None, pair), Stretch("alike", 0, "1", pair),
            Stretch("alike", 0, 1, Pair(None, ("a", "b"))), Stretch("alike", 0, 1, Pair(("", 1), ("a", "b"))),
            Stretch("alike", 0, 1, Pair(("", "ab"), None)), Stretch("alike", 0, 1, Pair(("", "ab"), ("a", 1))),
            Stretch("alike", 0, 1, Pair(("", "aab"), ("a", "b"))), Stretch("alike", 0, 1, Pair(("",), ("a", "b"))),
        ]
        for stretch in wrong + built_in_things() + own_things() + [None, 0, "alike"]:
            self.check(False, [0], [stretch])
        for stretches in ([], [self.stretch] * 2, None, 0, "a", self.stretch, {0: self.stretch}):
            self.check(False, [0], stretches)
        self.check(True, [0], [Stretch("alike", 0, 2, Pair(("", "ab", 7), ("a", "b", 7)))])

    def test_rows_that_differ_later_than_in_the_first_field(self):
        fields = [Listed(["a", "b"]), WORDS, WORDS]
        wish = Wish(False, [])
        for first, rows in ((0, (("a", "", "b"), ("a", "b", ""))), (1, (("", "b"), ("b", "")))):
            mend = Mend([1], [Stretch("alike", first, 2, Pair(*rows))])
            self.assertIs(is_mend(fields, wish, mend), first == 1)

    def test_pairs_of_another_kind(self):
        fields = [Word("a", 0, 1), Word("b", 1, 1), Fixed(1)]
        wish = Wish(True, [0])
        rows = Pair(("", "b"), ("a", "b"))
        turned = Pair(("a", "b"), ("", "b"))
        opened = Pair(("",), ("a",))
        cases = [("crossed", 1, rows, True), ("crossed", 1, turned, False), ("open", 0, opened, True), ("crossed", 0, opened, False),
                 ("alike", 0, opened, False), ("opened", 0, opened, False), ("", 0, opened, False), (None, 0, opened, False),
                 ("open", 0, Pair(("a",), ("",)), False), ("open", 0, Pair(("",), ("",)), False)]
        for kind, last, pair, expected in cases:
            self.assertIs(is_mend(fields, wish, Mend([0], [Stretch(kind, 0, last, pair)])), expected, (kind, last))
        # Rows that are in their order, or not in it, and texts that are.
        fields = [Listed(["a", "ab"]), Listed(["b", ""]), Listed(["a"])]
        cases = [("alike", ("a", "b"), ("ab", ""), True), ("crossed", ("a", "b"), ("ab", ""), False),
                 ("open", ("a", "b"), ("ab", ""), False), ("open", ("a", ""), ("ab", ""), False)]
        for kind, one, other, expected in cases:
            mend = Mend([0], [Stretch(kind, 0, 1, Pair(one, other))])
            self.assertIs(is_mend(fields, Wish(False, []), mend), expected, kind)
            self.assertIs(is_mend(fields, Wish(False, [1]), Mend([0, 1], mend.stretches * 2)), False)
        fields = [Listed(["a", "ab"]), Listed(["bc", "c"]), Listed(["x"])]
        for kind in ("alike", "open", "crossed"):
            mend = Mend([0], [Stretch(kind, 0, 1, Pair(("a", "bc"), ("ab", "c")))])
            self.assertIs(is_mend(fields, Wish(True, [1]), mend), kind == "alike")

    def test_stretches_with_a_joint_in_common(self):
        fields = [WORDS, WORDS, WORDS]
        one = Stretch("alike", 0, 1, Pair(("", "a"), ("a", "")))
        other = Stretch("alike", 1, 2, Pair(("", "a"), ("a", "")))
        long = Stretch("alike", 0, 2, Pair(("", "a", ""), ("a", "", "")))
        self.check(True, [0, 1], [other, one], fields=fields)
        self.check(False, [0, 1], [one, one], fields=fields)
        self.check(False, [0, 1], [long, other], fields=fields)

    def test_kinds_that_are_not_wished(self):
        fields = [Word("a", 0, 1), Fixed(1), Fixed(1)]
        crossed = Stretch("crossed", 0, 1, Pair(("", 5), ("a", 5)))
        self.check(False, [0], [crossed], fields=fields, order=True)
        fields = [Word("a", 0, 1), Word("b", 1, 1), Fixed(1)]
        crossed = Stretch("crossed", 0, 1, Pair(("", "b"), ("a", "b")))
        self.check(True, [0], [crossed], fields=fields, order=True)
        self.check(False, [0], [crossed], fields=fields, order=False)
        opened = Stretch("open", 0, 0, Pair(("",), ("a",)))
        self.check(True, [0], [opened], fields=fields, scans=[0])
        self.check(False, [0], [opened], fields=fields, scans=[1])
        self.check(False, [0], [opened], fields=fields)
        self.check(False, [0], [Stretch("open", 0, 0, Pair(("a",), ("",)))], fields=fields, scans=[0])
        longer = Stretch("open", 0, 1, Pair(("", "b"), ("a", "b")))
        self.check(False, [0], [longer], fields=fields, scans=[0, 1])

    def test_fields_that_are_not_whole(self):
        # With the order wished, a separator may help or harm there; [16] asks for what is, all the same.
        fields = [Listed(["a", "ab"]), Listed(["b", "bbb"]), Listed(["c"])]
        crossed = Stretch("crossed", 0, 2, Pair(("a", "bbb", "c"), ("ab", "b", "c")))
        for joints in sets_of_joints(fields):
            self.check(False, joints, [crossed], fields=fields, order=True)
            self.assertIs(is_mend(fields, Wish(True, []), Mend(joints, [])), False)
        # The stretches that prove two separators to be the fewest have no joint in common.
        parts = [Stretch("crossed", 1, 2, Pair(("b", "c"), ("bbb", "c"))),
                 Stretch("alike", 0, 1, Pair(("a", "b"), ("ab", "b")))]
        self.check(False, [0, 1], parts, fields=fields, order=True)

    def test_hopeless_fields(self):
        alone = Stretch("crossed", 0, 0, Pair((9,), (10,)))
        for joints in ([], [0]):
            for stretches in ([], [alone]):
                self.check(False, joints, stretches, fields=[Number(1, 10), Fixed(1)], order=True)

    def test_things_of_any_kind(self):
        for thing in built_in_things() + own_things() + [None, 0, "", Mend, Stretch, Wish(False, []), self.stretch]:
            for fields in (self.fields, [Fixed(1)]):
                for wish in (Wish(True, []), Wish(False, [0] if len(fields) > 1 else [])):
                    if isinstance(thing, Mend):
                        continue
                    self.assertIs(is_mend(fields, wish, thing), False)
        for one in built_in_things() + own_things() + [None, 0, ""]:
            self.assertIs(is_mend(self.fields, Wish(False, []), Mend(one, [self.stretch])), False)
            if one != 0 or isinstance(one, (bool, float)):
                self.assertIs(is_mend(self.fields, Wish(False, []), Mend([one], [self.stretch])), False)
            for other in ("alike", one):
                stretch = Stretch(other, one, one, one)
                self.assertIs(is_mend(self.fields, Wish(False, []), Mend([0], [stretch])), False)
                stretch = Stretch(other, 0, 1, Pair(one, one))
                self.assertIs(is_mend(self.fields, Wish(False, []), Mend([0], [stretch])), False)
                stretch = Stretch(other, 0, 1, Pair([one, one], [one, one]))
                self.assertIs(is_mend(self.fields, Wish(False, []), Mend([0], [stretch])), False)

    def test_very_long_texts_and_numbers(self):
        fields = [Number(1, None), Number(1, None), Word("ab", 0, None), Word("ab", 0, None)]
        number = 10 ** 5000 // 9
        stretches = [Stretch("alike", 0, 1, Pair((1, number), (number, 1))),
                     Stretch("alike", 2, 3, Pair(("a", "ab" * 5000), ("aab" + "ab" * 4998, "ab")))]
        self.assertIs(is_mend(fields, Wish(False, []), Mend((0, 2), stretches)), True)
        self.assertIs(is_mend(fields, Wish(False, []), Mend((0, 1), stretches)), False)
        stretches[0] = Stretch("alike", 0, 1, Pair((1, number), (number, 2)))
        self.assertIs(is_mend(fields, Wish(False, []), Mend((0, 2), stretches)), False)


class LargeFields(unittest.TestCase):
    """Fields with 10 ** 20 values, or any number of them: at once, and what [14] to [16] say of the answers."""

    def at_once(self, call, *given):
        start = perf_counter()
        answer = call(*given)
        self.assertLess(perf_counter() - start, MOST_SECONDS)
        return answer

    def keeps(self, fields, joints, wish):
        layout = Layout(fields, ["!" if k in joints else "" for k in range(len(fields) - 1)])
        return (alike_rows(layout) is None and (not wish.order or unsorted_rows(layout) is None)
                and all(strangers(layout, k) is None for k in wish.scans))

    def test_random_fields(self):
        random = Random(17)
        for _ in range(60):
            signs = random.choice(["ab", "01", "0123456789", "a0", SIGNS[1:], "abc"])
            fields = [large_field(random, signs) for _ in range(8)]
            wish = Wish(random.random() < 0.3, random.sample(range(7), random.randrange(8)))
            stretches = self.at_once(broken_stretches, fields, wish)
            for each in stretches:
                AgainstAllRows.check_pair(self, fields, each)
            try:
                mend = self.at_once(mended, fields, wish)
            except (NotWhole, Hopeless):
                continue
            self.assertIs(self.at_once(is_mend, fields, wish, mend), True)
            self.assertTrue(self.keeps(fields, mend.joints, wish))
            for joint in mend.joints:
                fewer = [k for k in mend.joints if k != joint]
                self.assertFalse(self.keeps(fields, fewer, wish))
                self.assertIs(is_mend(fields, wish, Mend(fewer, mend.stretches[1:])), False)

    def test_separators_never_harm_whole_fields(self):
        random = Random(18)
        for _ in range(40):
            fields = [field for field in small_fields(random, 6, 10 ** 9) if is_whole(field)] or [WORDS]
            wish = Wish(True, some_scans(random, fields))
            try:
                joints = mended(fields, wish).joints
            except Hopeless:
                continue
            for more in sets_of_joints(fields):
                self.assertTrue(self.keeps(fields, joints + more, wish))


if __name__ == "__main__":
    unittest.main()
