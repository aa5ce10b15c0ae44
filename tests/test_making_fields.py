import unittest
from itertools import product

from jointkeys.errors import BadField
from jointkeys.fields import Ended, Fixed, Listed, Marked, Number, Word, text_of, value_of
from tests.helpers import SIGNS, built_in_things, neither_text_nor_number, own_things, some_fields

NOT_SIGNS = [chr(code) for code in range(300) if chr(code) not in SIGNS] + ["\u0660", "\uff11", "\ud800"]
NO_SIGN = ["", "ab", "aa", None, 1, 0] + NOT_SIGNS
NO_LEAST = [-1, -10 ** 9, None, "0", "1", ""]
NO_MOST = [-1, "2", "", "*"]


def no_field_signs():
    return (["", "aa", "aba", "abcdea", "a!", "~", "a b", " ", "a\n", None, 1, 0] + NOT_SIGNS
            + neither_text_nor_number())


def no_least():
    return NO_LEAST + neither_text_nor_number()


def no_most(least):
    below = [least - 1] if least > 0 else []
    return NO_MOST + below + neither_text_nor_number()


def no_texts():
    no_text = neither_text_nor_number() + [None, 1, 0, "!", "~", "a ", "a\n", "\u0660"]
    return ([[], (), "", "a", "ab", None, 0, 1, {"a"}, {"a": "b"}, frozenset("a"), iter(["a"]), range(2)]
            + [["a", "a"], ("", ""), ["a", "b", "a"], ["a", ["b"]]]
            + [[thing] for thing in no_text] + [["a", thing] for thing in no_text]
            + [(thing, "b") for thing in no_text] + own_things())


class MakingFields(unittest.TestCase):

    def refused(self, what, kind, *given):
        with self.assertRaises(BadField) as caught:
            kind(*given)
        self.assertEqual(caught.exception.what, what, (kind, given))

    def refused_alone(self, kind, good, place, what, wrong):
        for thing in wrong:
            given = list(good)
            given[place] = thing
            self.refused(what, kind, *given)

    def first_is_told(self, kind, names, good, wrong):
        """Of several wrong parameters the first one is told."""
        for picks in product([False, True], repeat=len(names)):
            if True in picks:
                given = [bad if pick else fine for pick, fine, bad in zip(picks, good, wrong)]
                self.refused(names[picks.index(True)], kind, *given)
                named = dict(reversed(list(zip(names, given))))
                with self.assertRaises(BadField) as caught:
                    kind(**named)
                self.assertEqual(caught.exception.what, names[picks.index(True)])

    def test_word_refused(self):
        self.refused_alone(Word, ["ab", 0, 2], 0, "signs", no_field_signs())
        self.refused_alone(Word, ["ab", 0, 2], 1, "least", no_least())
        self.refused_alone(Word, ["ab", 0, 2], 2, "most", no_most(0))
        self.refused_alone(Word, ["ab", 3, 4], 2, "most", no_most(3))
        self.first_is_told(Word, ["signs", "least", "most"], ["ab", 1, 2], ["a!", -1, 0])
        self.first_is_told(Word, ["signs", "least", "most"], ["ab", 1, 2], [[], None, "x"])

    def test_number_refused(self):
        self.refused_alone(Number, [0, 2], 0, "least", no_least())
        self.refused_alone(Number, [0, 2], 1, "most", no_most(0))
        self.refused_alone(Number, [10, 12], 1, "most", no_most(10))
        self.first_is_told(Number, ["least", "most"], [1, 2], [-1, 0])
        self.first_is_told(Number, ["least", "most"], [1, 2], [True, False])

    def test_fixed_refused(self):
        wrong = [0, -1, "1", None] + neither_text_nor_number()
        self.refused_alone(Fixed, [1], 0, "width", wrong)
        self.first_is_told(Fixed, ["width"], [1], [0])

    def test_listed_refused(self):
        self.refused_alone(Listed, [["a"]], 0, "texts", no_texts())
        self.first_is_told(Listed, ["texts"], [["a"]], [[]])

    def test_ended_refused(self):
        good = ["ab", ".", 0, 2]
        self.refused_alone(Ended, good, 0, "signs", no_field_signs())
        self.refused_alone(Ended, good, 1, "sign", NO_SIGN + ["a", "b"] + neither_text_nor_number())
        self.refused_alone(Ended, good, 2, "least", no_least())
        self.refused_alone(Ended, good, 3, "most", no_most(0))
        names = ["signs", "sign", "least", "most"]
        self.first_is_told(Ended, names, ["ab", ".", 1, 2], ["a!", "!", -1, 0])
        self.first_is_told(Ended, names, ["ab", ".", 1, 2], [["a"], None, "1", True])

    def test_ended_sign_is_refused_before_lengths_even_if_among_the_signs(self):
        self.refused("sign", Ended, "ab", "b", -1, -2)

    def test_marked_refused(self):
        good = ["N", "m", Number(0, 5)]
        self.refused_alone(Marked, good, 0, "none", NO_SIGN + neither_text_nor_number())
        self.refused_alone(Marked, good, 1, "mark", NO_SIGN + ["N"] + neither_text_nor_number())
        no_field = [Marked("N", "m", Number(0, 5)), Marked("x", "y", Fixed(1)), Word, None, "a", 1, BadField("a")]
        self.refused_alone(Marked, good, 2, "field", no_field + built_in_things())
        names = ["none", "mark", "field"]
        self.first_is_told(Marked, names, ["N", "m", Fixed(1)], ["", "", None])
        self.first_is_told(Marked, names, ["N", "m", Fixed(1)], ["!", "~", Marked("a", "b", Fixed(1))])

    def signs_in(self, field):
        """The signs with which no marking of this field can do."""
        found = ""
        for sign in SIGNS:
            spare = [other for other in "-XYZ" if other != sign]
            allowed = []
            for other in spare:
                for none, mark in ((sign, other), (other, sign)):
                    try:
                        made = Marked(none, mark, field)
                        allowed.append((made.none, made.mark) == (none, mark))
                    except BadField as error:
                        self.assertEqual(error.what, "field")
                        allowed.append(False)
            self.assertEqual(len(set(allowed)), 1, (field, sign))
            found += "" if allowed[0] else sign
        return found

    def test_marked_refuses_signs_in_texts_alone(self):
        digits = "0123456789"
        cases = [
            (Word("ab", 0, None), "ab"), (Word("ab", 0, 1), "ab"), (Word("ab", 5, 12), "ab"),
            (Word("ab", 0, 0), ""), (Ended("ab", "c", 0, 0), "c"), (Ended("ab", "c", 0, 1), "abc"),
            (Ended("ab", ".", 0, None), ".ab"), (Fixed(1), digits), (Fixed(20), digits),
            (Listed([""]), ""), (Listed(["", "b", "ca"]), "abc"), (Number(0, None), digits),
            (Number(10 ** 9 - 1, None), digits), (Number(0, 10 ** 9 - 1), digits),
            (Number(5, 9), "56789"), (Number(0, 8), "012345678"), (Number(0, 9), digits),
            (Number(7, 7), "7"), (Number(0, 0), "0"), (Number(9, 11), "019"),
            (Number(99, 101), "019"), (Number(100, 109), digits), (Number(100, 108), "012345678"),
            (Number(899999998, 900000002), "01289"), (Number(222222222, 222222222), "2"),
        ]
        for field, signs in cases:
            self.assertEqual(self.signs_in(field), signs)

    def test_accepted_edges(self):
        self.assertEqual(Word("ab", 0, 0).most, 0)
        self.assertEqual(Number(0, 0).most, 0)
        self.assertEqual(Number(10 ** 9 - 1, 10 ** 9 - 1).least, 10 ** 9 - 1)
        self.assertEqual(Fixed(1).width, 1)
        self.assertEqual(Fixed(20).width, 20)
        self.assertEqual(Word(SIGNS, 12, 12).signs, SIGNS)
        self.assertIsNone(Word("a", 12, None).most)
        self.assertEqual(Ended(SIGNS[1:], SIGNS[0], 0, None).sign, "-")

    def test_every_sign_is_accepted_everywhere(self):
        for sign in SIGNS:
            other = "a" if sign != "a" else "b"
            self.assertEqual(Word(sign, 1, 1).signs, sign)
            self.assertEqual(Ended(other, sign, 0, 1).sign, sign)
            self.assertEqual(Listed([sign]).texts, (sign,))
            self.assertEqual(Marked(sign, other, Listed([""])).none, sign)
            self.assertEqual(Marked(other, sign, Listed([""])).mark, sign)

    def test_fields_by_position_and_by_name(self):
        inner = Fixed(1)
        cases = [
            (Word, ["signs", "least", "most"], ["ab", 0, None]),
            (Number, ["least", "most"], [1, 2]),
            (Fixed, ["width"], [3]),
            (Listed, ["texts"], [("b", "a")]),
            (Ended, ["signs", "sign", "least", "most"], ["ab", "c", 1, None]),
            (Marked, ["none", "mark", "field"], ["N", "m", inner]),
        ]
        for kind, names, given in cases:
            made = [kind(*given), kind(**dict(reversed(list(zip(names, given)))))]
            for field in made:
                self.assertEqual([getattr(field, name) for name in names], given)
            self.assertEqual(made[0], made[1])
        self.assertIs(Marked("N", "m", inner).field, inner)

    def test_listed_stores_a_tuple_of_its_own(self):
        texts = ["b", "a"]
        field = Listed(texts)
        self.assertIsInstance(field.texts, tuple)
        texts[0] = "x"
        texts.append("c")
        self.assertEqual(field.texts, ("b", "a"))
        self.assertEqual((text_of(field, "b"), value_of(field, "a")), ("b", "a"))
        self.assertEqual(texts, ["x", "a", "c"])

    def test_equal_fields(self):
        self.assertEqual(Listed(["a", "b"]), Listed(("a", "b")))
        for one, other in zip(some_fields(), some_fields()):
            self.assertTrue(one == other)
            self.assertFalse(one != other)

    def test_unequal_fields(self):
        fields = some_fields() + [
            Word("ba", 0, None), Word("ab", 1, None), Word("ab", 0, 2), Number(1, None), Number(0, 5),
            Fixed(3), Listed(["", "a"]), Listed(["a"]), Ended("ba", ".", 0, 2), Ended("ab", "/", 0, 2),
            Ended("ab", ".", 1, 2), Ended("ab", ".", 0, None), Marked("M", "m", Number(1, 5)),
            Marked("N", "n", Number(1, 5)), Marked("N", "m", Number(1, 6)), Marked("N", "m", Fixed(1)),
        ]
        for here, one in enumerate(fields):
            for there, other in enumerate(fields):
                self.assertIs(one == other, here == there)
                self.assertIs(one != other, here != there)

    def test_never_equal_to_other_things(self):
        class LikeWord(Word):
            pass

        for field in some_fields():
            for thing in built_in_things() + [None, "ab", "a", 0, 2, ("a", ""), BadField("a")]:
                self.assertIs(field == thing, False)
                self.assertIs(thing == field, False)
                self.assertIs(field != thing, True)
        self.assertIs(Word("ab", 0, 1) == LikeWord("ab", 0, 1), False)
        self.assertIs(LikeWord("ab", 0, 1) == Word("ab", 0, 1), False)


if __name__ == "__main__":
    unittest.main()
