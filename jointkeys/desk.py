"""A desk: a store, and commands and answers as strings."""

from jointkeys.errors import JointError
from jointkeys.keeping import alike_rows, mistaken_row, strangers, unsorted_rows
from jointkeys.layouts import row_text
from jointkeys.layouttexts import is_short_numeral, layout_text, read_layout, read_row, read_values, row_word
from jointkeys.mending import Wish, mended
from jointkeys.numerals import digits_of, number_of
from jointkeys.stores import Store

# How many words each command has; what is behind "move" may have blanks.
WORDS = {
    "put": 3, "take": 2, "get": 2, "text": 2, "scan": 2, "all": 1, "layout": 1,
    "alike": 1, "unsorted": 1, "stranger": 2, "mistaken": 1, "mend": 2,
}


def is_command(thing):
    if not isinstance(thing, str):
        return False
    words = thing.split(" ")
    if words[0] == "move":
        return len(words) > 1
    if len(words) != WORDS.get(words[0], 0):
        return False
    if words[0] == "mend":
        return words[1] in ("order", "plain")
    return words[0] not in ("put", "stranger") or is_short_numeral(words[-1])


def told_number(number):
    return "nothing" if number is None else digits_of(number)


def told_pairs(layout, pairs):
    return [f"{row_word(layout, row)} {digits_of(number)}" for row, number in pairs]


def told_pair(layout, pair):
    return ["none"] if pair is None else [row_word(layout, pair.one), row_word(layout, pair.other)]


def told_mistaken(layout):
    row = mistaken_row(layout)
    return ["none"] if row is None else [row_word(layout, row)]


def told_mend(layout, word):
    joints = mended(layout.fields, Wish(word == "order", ())).joints
    return ["none" if len(joints) == 0 else " ".join([str(joint) for joint in joints])]


def told_about(layout, words):
    """The answer to a command that asks about a layout alone."""
    if words[0] == "layout":
        return [layout_text(layout)]
    if words[0] == "text":
        return [row_text(layout, read_row(layout, words[1]))]
    if words[0] == "alike":
        return told_pair(layout, alike_rows(layout))
    if words[0] == "unsorted":
        return told_pair(layout, unsorted_rows(layout))
    if words[0] == "stranger":
        return told_pair(layout, strangers(layout, number_of(words[1])))
    return told_mistaken(layout) if words[0] == "mistaken" else told_mend(layout, words[1])


class Desk:
    """A store that is told commands."""

    def __init__(self, layout):
        self.store = Store(layout)

    def tell(self, command):
        """The answer to a command, as a list of strings."""
        if not is_command(command):
            return ["refused badtext"]
        try:
            return self.answer(command)
        except JointError as error:
            return [error.told()]

    def answer(self, command):
        store = self.store
        words = command.split(" ")
        if words[0] == "move":
            self.store = store.moved(read_layout(command[len("move "):]))
            return ["moved"]
        if words[0] == "put":
            store.put(read_row(store.layout, words[1]), number_of(words[2]))
            return ["kept"]
        if words[0] == "take":
            return ["taken" if store.take(read_row(store.layout, words[1])) else "nothing"]
        if words[0] == "get":
            return [told_number(store.get(read_row(store.layout, words[1])))]
        if words[0] == "scan":
            return told_pairs(store.layout, store.scan(read_values(store.layout, words[1])))
        if words[0] == "all":
            return told_pairs(store.layout, store.scan(()))
        return told_about(store.layout, words)
