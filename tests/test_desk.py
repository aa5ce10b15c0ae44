import unittest
from random import Random
from time import perf_counter

from jointkeys.desk import Desk
from jointkeys.errors import JointError
from jointkeys.fields import Fixed, Listed, Marked, Number, Word
from jointkeys.keeping import alike_rows, mistaken_row, strangers, unsorted_rows
from jointkeys.layouts import Layout, bare_layout, row_text
from jointkeys.layouttexts import layout_text, read_layout, row_word
from jointkeys.mending import Wish, mended
from tests.helpers import neither_text_nor_number, some_fields
from tests.rowsearch import Rows, small_layouts, some_layout
from tests.test_stores import PlainStore

WORDS = Word("ab", 0, None)
MOST_SECONDS = 5


def told(call, *given):
    """What a call returns, or the answer of a desk to the error that it raises."""
    try:
        return call(*given)
    except JointError as error:
        return [error.told()]


class Commands(unittest.TestCase):

    def test_examples(self):
        desk = Desk(Layout([Fixed(2)], []))
        self.assertEqual((desk.tell("put 7 5"), desk.tell("put 07 5"), desk.tell("all")),
                         (["kept"], ["refused norow"], ["7 5"]))
        desk = Desk(Layout([WORDS, WORDS], [""]))
        answers = (desk.tell("mend plain"), desk.tell("move word:ab:0:* ! word:ab:0:*"), desk.tell("alike"))
        self.assertEqual(answers, (["0"], ["moved"], ["none"]))

    def session(self, layout, *told_and_answers):
        desk = Desk(layout)
        for command, *answers in told_and_answers:
            self.assertEqual(desk.tell(command), answers, command)
        return desk

    def test_put_take_and_get(self):
        self.session(
            bare_layout([WORDS, Number(0, None)]),
            ("all",), ("get ab,7", "nothing"), ("take ab,7", "nothing"), ("put ab,7 0", "kept"), ("get ab,7", "0"),
            ("put ab,7 999999999", "kept"), ("get ab,7", "999999999"), ("all", "ab,7 999999999"), ("put ,0 3", "kept"),
            ("all", ",0 3", "ab,7 999999999"), ("take ab,7", "taken"), ("take ab,7", "nothing"), ("all", ",0 3"),
            ("get ,0", "3"), ("text ab,70", "ab70"), ("text ,0", "0"))

    def test_empty_rows(self):
        self.session(
            Layout([Listed(["", "a"])], []),
            ("put  5", "kept"), ("get ", "5"), ("text ", ""), ("scan ", " 5"), ("all", " 5"), ("put a 6", "kept"),
            ("scan ", " 5", "a 6"), ("scan a", "a 6"), ("take ", "taken"), ("get ", "nothing"), ("scan ", "a 6"))

    def test_rows_that_share_one_text(self):
        self.session(
            bare_layout([WORDS, WORDS]),
            ("put a,bb 1", "kept"), ("put ab,b 2", "kept"), ("get a,bb", "2"), ("all", "ab,b 2"), ("scan ", "ab,b 2"),
            ("scan abb", "ab,b 2"), ("scan abb,", "ab,b 2"), ("scan b",), ("take ,abb", "taken"), ("all",))

    def session_of_scans(self):
        return self.session(
            Layout([Listed(["ann", "anna"]), Fixed(2), Marked("N", "m", Fixed(1))], ["", "!"]),
            ("put anna,12,= 1", "kept"), ("put ann,1,5 2", "kept"), ("put ann,1,= 3", "kept"), ("put ann,99,0 4", "kept"))

    def test_scans(self):
        desk = self.session_of_scans()
        for command, answers in (
                ("scan ann", ["ann,1,= 3", "ann,1,5 2", "ann,99,0 4", "anna,12,= 1"]), ("scan anna", ["anna,12,= 1"]),
                ("scan ann,1", ["ann,1,= 3", "ann,1,5 2"]), ("scan ann,1,=", ["ann,1,= 3"]), ("scan ann,2", []),
                ("scan ann,01", ["refused norow"]), ("scan", ["refused badtext"]), ("scan ", ["refused norow"]),
                ("scan ann,1,=,", ["refused norow"]), ("scan b", ["refused norow"]), ("scan ann 1", ["refused badtext"])):
            self.assertEqual(desk.tell(command), answers, command)

    def test_moves(self):
        desk = self.session(
            Layout([WORDS, WORDS], ["~"]),
            ("layout", "word:ab:0:* ~ word:ab:0:*"), ("put a,b 1", "kept"), ("put ab, 2", "kept"), ("put b,b 3", "kept"),
            ("all", "ab, 2", "a,b 1", "b,b 3"))
        before = desk.tell("all")
        for command, answer in (
                ("move word:ab:0:* word:ab:0:*", "refused clash"), ("move word:ab:0:* ! word:a:0:*", "refused norow"),
                ("move word:ab:0:*", "refused norow"), ("move fixed:0", "refused badfield"), ("move fixed:01", "refused badtext"),
                ("move ! fixed:1", "refused badtext"), ("move word:ab:0:* ! word:ab:0:* ", "refused badtext"),
                ("move  word:ab:0:* ! word:ab:0:*", "refused badtext"), ("move ", "refused badtext"), ("move", "refused badtext"),
                ("move word:aa:0:* ! word:ab:0:*", "refused badfield"), ("move marked:N:m:fixed:0", "refused badfield")):
            self.assertEqual(desk.tell(command), [answer], command)
            self.assertEqual((desk.tell("all"), desk.tell("layout")), (before, ["word:ab:0:* ~ word:ab:0:*"]))
        self.assertEqual(desk.tell("move word:ab:0:2 ! listed:b,,a"), ["moved"])
        self.assertEqual(desk.tell("layout"), ["word:ab:0:2 ! listed:b,,a"])
        self.assertEqual(desk.tell("all"), ["a,b 1", "ab, 2", "b,b 3"])
        self.assertEqual(desk.tell("put bb,bb 4"), ["refused norow"])
        self.assertEqual(desk.tell("put bb,a 4"), ["kept"])
        self.assertEqual(desk.tell("text bb,a"), ["bb!a"])
        self.assertEqual(desk.tell("all"), ["a,b 1", "ab, 2", "b,b 3", "bb,a 4"])

    def test_questions_about_layouts(self):
        self.session(
            Layout([Listed(["ann", "anna"]), Fixed(1), Number(9, 10)], ["", "!"]),
            ("alike", "none"), ("stranger 0", "ann,0,9", "anna,0,9"), ("stranger 1", "none"), ("stranger 2", "refused nojoint"),
            ("stranger 999999999", "refused nojoint"), ("stranger 1000000000", "refused badtext"), ("mistaken", "none"),
            ("mend plain", "none"), ("mend order", "refused hopeless"))
        desk = Desk(Layout([Number(0, None)], []))
        self.assertEqual(desk.tell("unsorted"), ["9", "10"])
        self.assertEqual((desk.tell("mend order"), desk.tell("mend plain")), (["refused notwhole"], ["none"]))
        self.assertEqual(desk.tell("stranger 0"), ["refused nojoint"])
        desk = Desk(bare_layout([WORDS] * 8))
        self.assertEqual((desk.tell("mend order"), desk.tell("mend plain")), (["0 1 2 3 4 5 6"],) * 2)
        self.assertEqual(len(desk.tell("alike")), 2)
        self.assertEqual(len(desk.tell("mistaken")), 1)
        desk = Desk(bare_layout([Listed(["a", "ab"]), Listed(["b", "c"])]))
        self.assertEqual((desk.tell("mistaken"), desk.tell("unsorted")), (["a,b"], ["a,c", "ab,b"]))

    def test_great_values(self):
        number = "1" + "0" * 999
        self.session(
            Layout([Number(0, None), WORDS], ["!"]),
            (f"put {number},{'ab' * 1000} 5", "kept"), (f"get {number},{'ab' * 1000}", "5"),
            (f"scan {number}", f"{number},{'ab' * 1000} 5"), (f"text {number},a", f"{number}!a"),
            ("move number:0:* ~ word:ab:0:*", "moved"), ("all", f"{number},{'ab' * 1000} 5"))

    def test_two_desks_share_nothing(self):
        layout = Layout([Fixed(1)], [])
        one, other = Desk(layout), Desk(layout=layout)
        one.tell("put 1 1")
        one.tell("move fixed:1")
        one.tell(command="put 2 2")
        self.assertEqual((one.tell("all"), other.tell("all")), (["1 1", "2 2"], []))
        self.assertEqual(layout, Layout([Fixed(1)], []))

    def test_lists_are_new(self):
        desk = Desk(Layout([Fixed(1)], []))
        for command in ("all", "alike", "layout", "put 1 1", "nothing at all"):
            answer = desk.tell(command)
            self.assertIsInstance(answer, list)
            answer.append("x")
            self.assertNotIn("x", desk.tell(command))


class Refused(unittest.TestCase):

    def test_bad_texts(self):
        desk = Desk(Layout([Fixed(1), WORDS], [""]))
        desk.tell("put 1,a 5")
        bad = [
            "", " ", "a", "PUT 1,a 5", "Put 1,a 5", "put", "put 1,a", "put 1,a 5 6", "put 1,a  5", " put 1,a 5", "put 1,a 5 ",
            "put  1,a 5", "put 1,a 05", "put 1,a -1", "put 1,a +1", "put 1,a x", "put 1,a ", "put 1,a 1000000000", "put x 0000000001",
            "put x x", "put 1,a \u0661", "put 1,a 5\n", "take", "take 1,a 5", "get", "get 1,a 1", "text", "text 1,a 1", "scan", "scan 1 a",
            "all ", "all 1", " all", "ALL", "move", "moved", "layout ", "layout x", "alike ", "alike 1", "unsorted 1", "stranger",
            "stranger ", "stranger x", "stranger 00", "stranger -1", "stranger 0 0", "stranger 1000000000", "mistaken 0", "mend", "mend ",
            "mend x", "mend order plain", "mend order ", "mend  order", "mend Order", "size", "alike\n", "put\t1,a\t5", "\u00e4", "all\x00",
        ]
        for command in bad:
            self.assertEqual(desk.tell(command), ["refused badtext"], command)
        for thing in neither_text_nor_number() + [None, 0, 5, ["all"], ("all",)]:
            self.assertEqual(desk.tell(thing), ["refused badtext"])
        self.assertEqual((desk.tell("all"), desk.tell("layout")), (["1,a 5"], ["fixed:1 word:ab:0:*"]))

    def test_bad_rows(self):
        desk = Desk(Layout([Fixed(1), WORDS], [""]))
        desk.tell("put 1,a 5")
        for row in ("", "1", "1,c", "10,a", "01,a", "1,a,", "1,a,b", "a,1", "=,a", "1,=", ",", "-1,a", "x"):
            for command in (f"put {row} 6", f"take {row}", f"get {row}", f"text {row}"):
                self.assertEqual(desk.tell(command), ["refused norow"], command)
            if row != "1":
                self.assertEqual(desk.tell(f"scan {row}"), ["refused norow"])
        self.assertEqual(desk.tell("all"), ["1,a 5"])


class AgainstPlainLists(unittest.TestCase):

    def test_many_commands(self):
        random = Random(22)
        layouts = [layout for layout in small_layouts()[::15]] + [some_layout(random, 4, 100) for _ in range(40)]
        for layout in layouts:
            known = Rows(layout)
            desk, plain = Desk(layout), PlainStore(known)
            rows = random.sample(known.rows, min(8, len(known.rows)))
            for number in range(40):
                self.check(random, desk, plain, layout, random.choice(rows), number)

    def check(self, random, desk, plain, layout, row, number):
        word = row_word(layout, row)
        chosen = random.randrange(6)
        if chosen < 2:
            self.assertEqual(desk.tell(f"put {word} {number}"), ["kept"])
            plain.put(row, number)
        elif chosen == 2:
            self.assertEqual(desk.tell(f"take {word}"), ["taken" if plain.take(row) else "nothing"])
        elif chosen == 3:
            self.assertEqual(desk.tell(f"get {word}"), ["nothing" if plain.get(row) is None else str(plain.get(row))])
        elif chosen == 4:
            many = random.randrange(1, len(row) + 1)
            values = ",".join(word.split(",")[:many])
            self.assertEqual(desk.tell(f"scan {values}"), self.lines(layout, plain.scan(row, many)))
        else:
            self.assertEqual(desk.tell("all"), self.lines(layout, plain.scan(row, 0)))
        self.assertEqual(desk.tell(f"text {word}"), [row_text(layout, row)])

    def lines(self, layout, pairs):
        return [f"{row_word(layout, row)} {number}" for row, number in pairs]

    def test_questions(self):
        random = Random(23)
        for layout in small_layouts()[::11] + [some_layout(random, 5, 10 ** 9) for _ in range(60)]:
            desk = Desk(bare_layout([Fixed(1)]))
            self.assertEqual(desk.tell("move " + layout_text(layout)), ["moved"])
            self.assertEqual(read_layout(desk.tell("layout")[0]), layout)

            def pair(found):
                return ["none"] if found is None else [row_word(layout, found.one), row_word(layout, found.other)]

            self.assertEqual(desk.tell("alike"), pair(alike_rows(layout)))
            self.assertEqual(desk.tell("unsorted"), pair(unsorted_rows(layout)))
            for k in range(len(layout.joints) + 2):
                self.assertEqual(desk.tell(f"stranger {k}"), told(lambda: pair(strangers(layout, k))))
            row = mistaken_row(layout)
            self.assertEqual(desk.tell("mistaken"), ["none"] if row is None else [row_word(layout, row)])
            for word in ("order", "plain"):
                wish = Wish(word == "order", ())

                def joints():
                    return [" ".join(map(str, mended(layout.fields, wish).joints)) or "none"]

                self.assertEqual(desk.tell("mend " + word), told(joints))

    def test_large_layouts_at_once(self):
        desk = Desk(bare_layout(some_fields()))
        start = perf_counter()
        self.assertEqual(desk.tell("move " + " ".join(["fixed:20"] * 7 + ["number:0:*"])), ["moved"])
        for command in ("alike", "unsorted", "stranger 6", "mistaken", "mend order", "mend plain"):
            self.assertIsInstance(desk.tell(command), list)
        self.assertLess(perf_counter() - start, MOST_SECONDS)


if __name__ == "__main__":
    unittest.main()
