"""Where the texts of fields stand within a text.

`spots_in` gives an object with a method `spans_from(places)`. It takes ascending
places and returns where the texts of the field end that stand there, as tuples
(place, first, last): one of them ends at each place from the first to the last
one. Those from one place are ascending.
"""

from jointkeys.fields import Ended, Fixed, Listed, Number, Word, is_within
from jointkeys.numerals import digits_of
from jointkeys.signs import DIGITS


def spots_in(field, text):
    if isinstance(field, Word):
        return WordSpots(field, text)
    if isinstance(field, Ended):
        return EndedSpots(field, text)
    if isinstance(field, Fixed):
        return FixedSpots(field, text)
    if isinstance(field, Number):
        return NumberSpots(field, text)
    if isinstance(field, Listed):
        return ListedSpots(field, text)
    return MarkedSpots(field, text)


class RunSpots:
    """The spots of a field whose texts are made of some signs, but perhaps for a last one.

    A class below this one has a method `span_at(place, end)`. It returns the first and
    the last end of the texts that stand at a place; there is none if the first one is
    greater. The longest run of the signs from this place on ends at `end`.
    """

    def __init__(self, text, signs):
        self.text = text
        self.signs = signs

    def spans_from(self, places):
        found = []
        end = -1
        for place in places:
            if place > end:
                end = len(self.text) - len(self.text[place:].lstrip(self.signs))
            first, last = self.span_at(place, end)
            if first <= last:
                found.append((place, first, last))
        return found


class WordSpots(RunSpots):

    def __init__(self, field, text):
        RunSpots.__init__(self, text, field.signs)
        self.least = field.least
        # No word is longer than the text.
        self.most = len(text) if field.most is None else field.most

    def span_at(self, place, end):
        return (place + self.least, min(end, place + self.most))


class EndedSpots(RunSpots):

    def __init__(self, field, text):
        RunSpots.__init__(self, text, field.signs)
        self.field = field

    def span_at(self, place, end):
        if is_within(self.field, end - place) and self.text.startswith(self.field.sign, end):
            return (end + 1, end + 1)
        return (end + 1, end)


class FixedSpots(RunSpots):

    def __init__(self, field, text):
        RunSpots.__init__(self, text, DIGITS)
        self.width = field.width

    def span_at(self, place, end):
        return (place + self.width, min(end, place + self.width))


class NumberSpots(RunSpots):

    def __init__(self, field, text):
        RunSpots.__init__(self, text, DIGITS)
        self.low = digits_of(field.least)
        self.high = None if field.most is None else digits_of(field.most)

    def span_at(self, place, end):
        if place < end and self.text[place] == "0":
            return (place + 1, place + 1 if self.low == "0" else place)
        first = place + len(self.low)
        # Digits of one length stand in the order of their numbers.
        if self.text[place:first] < self.low:
            first += 1
        last = end
        if self.high is not None and place + len(self.high) <= end:
            last = place + len(self.high)
            if self.text[place:last] > self.high:
                last -= 1
        return (first, last)


class ListedSpots:

    def __init__(self, field, text):
        self.texts = field.texts
        self.longest = max([len(own) for own in field.texts])
        self.text = text
        self.known = {}

    def spans_from(self, places):
        found = []
        for place in places:
            piece = self.text[place:place + self.longest]
            # The same signs stand at many places of most texts.
            if piece not in self.known:
                self.known[piece] = self.spans_in(piece)
            for shorter, longer in self.known[piece]:
                found.append((place, place + shorter, place + longer))
        return found

    def spans_in(self, piece):
        """The lengths of the texts that a piece begins with, those that follow one another as one span."""
        spans = []
        for length in sorted([len(own) for own in self.texts if piece.startswith(own)]):
            if len(spans) > 0 and spans[-1][1] == length - 1:
                spans[-1] = (spans[-1][0], length)
            else:
                spans.append((length, length))
        return spans


class MarkedSpots:

    def __init__(self, field, text):
        self.field = field
        self.text = text

    def spans_from(self, places):
        field = self.field
        behind_mark = [place + 1 for place in places if self.text.startswith(field.mark, place)]
        found = [(place, place + 1, place + 1) for place in places if self.text.startswith(field.none, place)]
        found.extend([(place - 1, first, last)
                      for place, first, last in spots_in(field.field, self.text).spans_from(behind_mark)])
        return found
