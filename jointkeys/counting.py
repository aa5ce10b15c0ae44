"""Counting the rows of bounded layouts, and finding the one at any place in the order of texts."""

from jointkeys.errors import NoPlace, Unbounded
from jointkeys.fields import Ended, Marked, Number, Word
from jointkeys.layouts import check_row, row_text
from jointkeys.nets import END, Net
from jointkeys.numerals import is_number
from jointkeys.reading import Reading, check_text
from jointkeys.signs import characters_of


def is_bounded(field):
    if isinstance(field, Marked):
        return is_bounded(field.field)
    return not isinstance(field, (Word, Number, Ended)) or field.most is not None


def check_bounds(layout):
    for index, field in enumerate(layout.fields):
        if not is_bounded(field):
            raise Unbounded(index)


def count_rows(layout):
    """The number of the rows of a layout."""
    check_bounds(layout)
    return Census(layout).all_rows()


def rank_of(layout, text):
    """The number of the rows whose text is less than a string."""
    check_bounds(layout)
    check_text(text)
    return Census(layout).rank(text)


def row_at(layout, place):
    """The row at a place in the order of texts, and of rows with the same text."""
    check_bounds(layout)
    census = Census(layout)
    if not is_number(place) or place < 0 or place >= census.all_rows():
        raise NoPlace(place)
    return row_in(layout, census, place)


def place_of(layout, row):
    """The place of a row in this order."""
    check_bounds(layout)
    check_row(layout, row)
    text = row_text(layout, row)
    return Census(layout).rank(text) + Reading(layout, text).rows_before(row)


def from_text(layout, text):
    """The first row in this order whose text is not less than a string, or None."""
    check_bounds(layout)
    check_text(text)
    census = Census(layout)
    place = census.rank(text)
    return row_in(layout, census, place) if place < census.all_rows() else None


def row_in(layout, census, place):
    text, rest = census.text_at(place)
    return Reading(layout, text).row_with_number(rest)


class Census:
    """The numbers of rows of a bounded layout whose texts begin in some way.

    `totals` has for each state of the net in how many ways a text can go on from there.
    Since each row is read in one way, a reader of the beginning of a text may be in some
    states, in each in some ways; these are the dicts of states and numbers below.
    """

    def __init__(self, layout):
        self.net = Net(layout)
        self.characters = {}
        self.totals = []
        for state, moves in enumerate(self.net.moves):
            jump = self.net.jumps[state]
            total = 1 if state == END else 0
            if jump is not None:
                total += self.totals[jump]
            # What follows a state has lesser numbers, for no text goes on for ever.
            for mask, behind, _, _ in moves:
                total += len(self.characters_in(mask)) * self.totals[behind]
            self.totals.append(total)

    def characters_in(self, mask):
        if mask not in self.characters:
            self.characters[mask] = characters_of(mask)
        return self.characters[mask]

    def all_rows(self):
        return self.totals[self.net.starts[0]]

    def first_states(self):
        return self.with_jumps({self.net.starts[0]: 1})

    def with_jumps(self, states):
        """These states and those that are reached from them without a character."""
        found = {}
        for state, many in states.items():
            while state is not None:
                found[state] = found.get(state, 0) + many
                state = self.net.jumps[state]
        return found

    def states_behind(self, states, character):
        found = {}
        for state, many in states.items():
            for mask, behind, _, _ in self.net.moves[state]:
                if character in self.characters_in(mask):
                    found[behind] = found.get(behind, 0) + many
        return self.with_jumps(found)

    def rank(self, text):
        rank = 0
        states = self.first_states()
        for character in text:
            # The texts that end here, and those that go on with less than this character.
            rank += states.get(END, 0)
            for state, many in states.items():
                for mask, behind, _, _ in self.net.moves[state]:
                    less = [sign for sign in self.characters_in(mask) if sign < character]
                    rank += many * len(less) * self.totals[behind]
            states = self.states_behind(states, character)
            if len(states) == 0:
                break
        return rank

    def text_at(self, place):
        """The text of the row at a place, and how many rows with this text are before it."""
        text = ""
        states = self.first_states()
        while place >= states.get(END, 0):
            place -= states.get(END, 0)
            numbers = self.numbers_behind(states)
            for character in sorted(numbers):
                if place < numbers[character]:
                    break
                place -= numbers[character]
            text += character
            states = self.states_behind(states, character)
        return (text, place)

    def numbers_behind(self, states):
        """For each character that may follow, in how many ways texts go on with it."""
        numbers = {}
        for state, many in states.items():
            for mask, behind, _, _ in self.net.moves[state]:
                for character in self.characters_in(mask):
                    numbers[character] = numbers.get(character, 0) + many * self.totals[behind]
        return numbers
