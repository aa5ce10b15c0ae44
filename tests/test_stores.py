import unittest
from random import Random

from jointkeys.errors import Clash, NoRow
from jointkeys.fields import Fixed, Listed, Number, Word
from jointkeys.layouts import Layout, bare_layout, row_text
from jointkeys.stores import Store
from tests.helpers import SIGNS, built_in_things, own_things, some_fields
from tests.rowsearch import Rows, small_layouts, some_layout
from tests.test_layouts import no_rows

WORDS = Word("ab", 0, None)


class PlainStore:
    """What [20] says, by a plain list of (text, row, number)."""

    def __init__(self, known):
        self.known = known
        self.kept = []

    def put(self, row, number):
        text = self.known.text_of(row)
        self.kept = sorted([each for each in self.kept if each[0] != text] + [(text, row, number)],
                           key=lambda each: each[0])

    def take(self, row):
        before = len(self.kept)
        self.kept = [each for each in self.kept if each[0] != self.known.text_of(row)]
        return len(self.kept) < before

    def get(self, row):
        return next((number for text, _, number in self.kept if text == self.known.text_of(row)), None)

    def scan(self, row, many):
        if many == 0:
            head = ""
        elif many == len(row):
            head = self.known.text_of(row)
        else:
            head = self.known.head(row, many - 1)
        return [(row, number) for text, row, number in self.kept if text.startswith(head)]


class AgainstPlainLists(unittest.TestCase):

    def test_many_calls(self):
        random = Random(20)
        layouts = [layout for layout in small_layouts()[::12] if len(Rows(layout).rows) > 1]
        layouts += [some_layout(random, 4, 100) for _ in range(60)]
        for layout in layouts:
            known = Rows(layout)
            store, plain = Store(layout), PlainStore(known)
            rows = random.sample(known.rows, min(12, len(known.rows)))
            for number in range(60):
                row = random.choice(rows)
                self.call(random, store, plain, row, number)
                self.assertEqual(store.size(), len(plain.kept))
            for row in rows:
                for many in range(len(row) + 1):
                    self.assertEqual(store.scan(list(row[:many])), plain.scan(row, many))

    def call(self, random, store, plain, row, number):
        chosen = random.randrange(5)
        if chosen < 2:
            self.assertIs(store.put(row if number % 2 else list(row), number), None)
            plain.put(row, number)
        elif chosen == 2:
            self.assertIs(store.take(row), plain.take(row))
        else:
            many = random.randrange(len(row) + 1)
            self.assertEqual(store.get(row), plain.get(row))
            self.assertEqual(store.scan(row[:many]), plain.scan(row, many))

    def test_moves(self):
        random = Random(21)
        seen = set()
        layouts = [some_layout(random, 3, 60) for _ in range(200)] + [layout for layout in small_layouts() if layout.joints]
        for layout in layouts:
            known = Rows(layout)
            store = Store(layout)
            for number, row in enumerate(random.sample(known.rows, min(len(known.rows), random.randrange(1, 20)))):
                store.put(row, number)
            fields = [random.choice([field] * 9 + [WORDS, Number(0, None)]) for field in layout.fields]
            other = Layout(fields, [random.choice(["", "", "!", joint]) for joint in layout.joints])
            seen.add(self.check_move(store, other))
        self.assertEqual(seen, {"moved", "norow", "clash"})

    def check_move(self, store, other):
        kept = store.scan([])
        texts = {}
        for row, _ in kept:
            places = [place for place, (field, value) in enumerate(zip(other.fields, row)) if not field.has_value(value)]
            if places:
                with self.assertRaises(NoRow) as caught:
                    store.moved(other)
                self.assertEqual((caught.exception.place, store.scan([])), (places[0], kept))
                return "norow"
        for row, _ in kept:
            text = row_text(other, row)
            if text in texts:
                with self.assertRaises(Clash) as caught:
                    store.moved(other)
                self.assertEqual((caught.exception.one, caught.exception.other), (texts[text], row))
                self.assertEqual(store.scan([]), kept)
                return "clash"
            texts[text] = row
        moved = store.moved(other)
        self.assertEqual(moved.scan([]), sorted(kept, key=lambda pair: row_text(other, pair[0])))
        self.assertEqual((store.scan(()), moved.size()), (kept, store.size()))
        return "moved"


class Stores(unittest.TestCase):

    def test_examples(self):
        store = Store(Layout([WORDS, WORDS], [""]))
        store.put(["a", "bb"], 1)
        store.put(["ab", "b"], 2)
        self.assertEqual((store.size(), store.get(["a", "bb"]), store.scan([""])), (1, 2, [(("ab", "b"), 2)]))
        store = Store(Layout([Listed(["ann", "anna"]), Fixed(1)], [""]))
        store.put(["anna", 2], 20)
        store.put(["ann", 1], 10)
        self.assertEqual(store.scan(["ann"]), [(("ann", 1), 10), (("anna", 2), 20)])

    def test_empty_store(self):
        store = Store(bare_layout(some_fields()))
        row = ("a", 7, 7, "", "", None)
        self.assertEqual((store.size(), store.get(row), store.take(row), store.scan(())), (0, None, False, []))
        self.assertEqual(store.moved(Layout([Fixed(1)], [])).size(), 0)

    def test_numbers_of_all_kinds(self):
        store = Store(Layout([Fixed(1)], []))
        for number in (0, -5, 10 ** 50):
            store.put((1,), number)
            self.assertEqual((store.get((1,)), store.scan((1,))), (number, [((1,), number)]))
        self.assertIs(store.take([1]), True)
        self.assertIs(store.take([1]), False)
        self.assertIs(store.get([1]), None)

    def test_rows_that_share_one_text(self):
        store = Store(bare_layout([WORDS, WORDS]))
        store.put(("", "ab"), 1)
        store.put(("ab", ""), 2)
        self.assertEqual(store.scan(()), [(("ab", ""), 2)])
        self.assertEqual(store.get(("a", "b")), 2)
        self.assertIs(store.take(("a", "b")), True)
        self.assertEqual((store.size(), store.get(("ab", ""))), (0, None))

    def test_scans_end_with_the_separator(self):
        fields = [Listed(["ann", "anna"]), Fixed(1)]
        for joint, found in (("", [(("ann", 1), 1), (("anna", 2), 2)]), ("!", [(("ann", 1), 1)]), ("~", [(("ann", 1), 1)])):
            store = Store(Layout(fields, [joint]))
            store.put(("anna", 2), 2)
            store.put(("ann", 1), 1)
            self.assertEqual(store.scan(("ann",)), found)

    def test_scans_by_as_many_values_as_fields(self):
        # The text of a whole row may begin that of another one.
        store = Store(bare_layout([WORDS, Word("ab", 0, 3)]))
        for number, row in enumerate([("", "a"), ("a", "b"), ("abb", ""), ("b", ""), ("ac"[:1], "aa")]):
            store.put(row, number)
        self.assertEqual(store.scan(("", "a")), [(("", "a"), 0), (("a", "aa"), 4), (("a", "b"), 1), (("abb", ""), 2)])
        self.assertEqual(store.scan(("ab", "")), [(("a", "b"), 1), (("abb", ""), 2)])
        self.assertEqual(store.scan(["abb", "a"]), [])
        self.assertEqual(len(store.scan([])), 5)

    def test_order_of_texts(self):
        store = Store(Layout([Number(0, None)], []))
        for number in range(120):
            store.put((number,), number)
        self.assertEqual([number for _, number in store.scan(())], sorted(range(120), key=str))
        self.assertEqual([number for _, number in store.scan((11,))], [11, 110, 111, 112, 113, 114, 115, 116, 117, 118, 119])

    def test_lists_are_new_and_rows_are_tuples(self):
        store = Store(bare_layout([Fixed(1), WORDS]))
        row = [1, "a"]
        store.put(row, 5)
        row[0] = 2
        found = store.scan([])
        self.assertEqual(found, [((1, "a"), 5)])
        self.assertEqual({type(found), type(found[0]), type(found[0][0])}, {list, tuple})
        found.append("x")
        found[0] = "y"
        self.assertEqual((store.scan([]), store.size()), ([((1, "a"), 5)], 1))

    def test_two_stores_share_nothing(self):
        layout = bare_layout([Fixed(1)])
        one, other = Store(layout), Store(layout)
        one.put((1,), 1)
        self.assertEqual((one.size(), other.size()), (1, 0))
        moved = one.moved(layout)
        moved.put((2,), 2)
        moved.put((1,), 3)
        self.assertEqual((one.scan(()), moved.scan(())), ([((1,), 1)], [((1,), 3), ((2,), 2)]))
        one.take((1,))
        self.assertEqual(moved.size(), 2)

    def test_by_name(self):
        store = Store(layout=bare_layout([Fixed(1), WORDS]))
        store.put(number=3, row=(1, "a"))
        self.assertEqual(store.get((1, "a")), 3)
        self.assertEqual(store.scan(values=(1,)), [((1, "a"), 3)])
        self.assertEqual(store.moved(layout=Layout([Fixed(2), WORDS], ["~"])).scan(()), [((1, "a"), 3)])
        self.assertIs(store.take(row=(1, "a")), True)

    def test_great_rows(self):
        layout = Layout([Number(0, None), WORDS, Word(SIGNS, 0, None)], ["!", "~"])
        store = Store(layout)
        row = (10 ** 1000 - 1, "ab" * 500, "z" * 1998)
        self.assertEqual(len(row_text(layout, row)), 4000)
        store.put(row, 1)
        self.assertEqual((store.get(row), store.scan(row[:2]), store.scan((10 ** 999 - 1,))), (1, [(row, 1)], []))
        self.assertEqual(store.moved(Layout(layout.fields, ["~", "!"])).scan(()), [(row, 1)])

    def test_eight_fields(self):
        fields = some_fields() + [Word("ab", 0, 1), Listed(["b", "", "a"])]
        store = Store(Layout(fields, ["!", "!", "~", "!", "~", "!", "!"]))
        rows = [("a", 7, 7, "", "", None, "", ""), ("a", 7, 7, "a", "", 5, "a", "b"), ("", 70, 7, "", "", None, "b", "a")]
        for number, row in enumerate(rows):
            store.put(row, number)
        for many in range(9):
            for row in rows:
                expected = [(other, number) for number, other in enumerate(rows) if other[:many] == row[:many]]
                self.assertEqual(sorted(store.scan(row[:many]), key=lambda pair: pair[1]), expected)
        for row in rows:
            with self.assertRaises(NoRow) as caught:
                store.scan(row + ("a",))
            self.assertEqual(caught.exception.place, 8)

    def test_many_rows(self):
        store = Store(Layout([Fixed(3), Fixed(2)], [""]))
        for number in range(20000):
            store.put((number * 7 % 1000, number * 13 % 100), number)
        self.assertEqual(store.size(), len({(number * 7 % 1000, number * 13 % 100) for number in range(20000)}))
        for value in range(1000):
            self.assertEqual({row[0] for row, _ in store.scan((value,))}, {value})


class Moves(unittest.TestCase):

    def test_first_row_that_is_none(self):
        store = Store(bare_layout([Number(0, None), Fixed(1)]))
        for row in ((9, 1), (10, 2), (5, 3)):
            store.put(row, row[1])
        # In the order of texts: 10 2, 5 3, 9 1.
        cases = [(Layout([Number(0, 8), Number(3, 9)], [""]), 0), (Layout([Number(0, 9), Number(3, 9)], [""]), 0),
                 (Layout([Number(6, 10), Number(2, 9)], [""]), 0), (Layout([Number(5, 10), Number(2, 9)], [""]), 1),
                 (Layout([Number(0, 10)], []), 1), (Layout([Number(0, 10), Fixed(1), Fixed(1)], ["", ""]), 2),
                 (Layout([WORDS, Fixed(1)], [""]), 0)]
        for layout, place in cases:
            with self.assertRaises(NoRow) as caught:
                store.moved(layout)
            self.assertEqual(caught.exception.place, place)
        self.assertEqual(store.size(), 3)

    def test_clash(self):
        store = Store(Layout([WORDS, WORDS], ["~"]))
        for number, row in enumerate([("b", ""), ("ab", "a"), ("a", "ba"), ("", "b"), ("", "aba")]):
            store.put(row, number)
        self.assertEqual([row for row, _ in store.scan(())], [("ab", "a"), ("a", "ba"), ("b", ""), ("", "aba"), ("", "b")])
        with self.assertRaises(Clash) as caught:
            store.moved(bare_layout([WORDS, WORDS]))
        self.assertEqual((caught.exception.one, caught.exception.other), (("ab", "a"), ("a", "ba")))
        store.take(("ab", "a"))
        store.take(("", "aba"))
        with self.assertRaises(Clash) as caught:
            store.moved(layout=bare_layout((WORDS, WORDS)))
        self.assertEqual((caught.exception.one, caught.exception.other), (("b", ""), ("", "b")))

    def test_rows_that_are_none_come_before_clashes(self):
        store = Store(Layout([Word("ab", 0, 2), Word("ab", 0, 2)], ["!"]))
        for row in (("", "a"), ("a", ""), ("b", "bb")):
            store.put(row, 1)
        with self.assertRaises(NoRow) as caught:
            store.moved(bare_layout([Word("ab", 0, 2), Word("ab", 0, 1)]))
        self.assertEqual(caught.exception.place, 1)
        with self.assertRaises(Clash):
            store.moved(bare_layout([Word("ab", 0, 2), Word("ab", 0, 2)]))


class WrongRows(unittest.TestCase):

    def test_each_call(self):
        layout = bare_layout(some_fields())
        store = Store(layout)
        row = ("a", 7, 7, "", "", None)
        store.put(row, 3)
        for wrong, place in no_rows(layout, row):
            for call in (store.get, store.take, lambda thing: store.put(thing, 9)):
                with self.assertRaises(NoRow) as caught:
                    call(wrong)
                self.assertEqual(caught.exception.place, place)
        self.assertEqual((store.size(), store.get(row)), (1, 3))

    def test_scans(self):
        layout = bare_layout(some_fields())
        store = Store(layout)
        row = ("a", 7, 7, "", "", None)
        store.put(row, 3)
        for wrong, place in no_rows(layout, row):
            if isinstance(wrong, (list, tuple)) and place == len(wrong) < len(row):
                self.assertEqual(store.scan(wrong), [(row, 3)])
            else:
                self.refused(store, wrong, place)
        self.refused(store, list(row) + [None], 6)
        self.refused(store, ["a", 7, "7"], 2)

    def refused(self, store, values, place):
        with self.assertRaises(NoRow) as caught:
            store.scan(values)
        self.assertEqual(caught.exception.place, place)

    def test_what_is_no_sequence(self):
        store = Store(Layout([WORDS], []))
        for thing in built_in_things() + own_things() + [None, 0, "", "a"]:
            if not isinstance(thing, (list, tuple)):
                self.refused(store, thing, -1)


if __name__ == "__main__":
    unittest.main()
