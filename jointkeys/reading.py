"""Reading texts: all rows with a text, how many there are, and the one that is read greedily."""

from itertools import accumulate

from jointkeys.errors import Large, NoText
from jointkeys.layouts import joints_behind
from jointkeys.ordered import first_from
from jointkeys.spots import spots_in

MOST_ROWS = 1000


def check_text(text):
    if not isinstance(text, str):
        raise NoText(text)


def rows_with(layout, text):
    """All rows with a text, in their order."""
    check_text(text)
    reading = Reading(layout, text)
    many = reading.all_ways()
    if many > MOST_ROWS:
        raise Large(many)
    return reading.rows_from(0, 0)


def count_ways(layout, text):
    """The number of the rows with a text."""
    check_text(text)
    return Reading(layout, text).all_ways()


def read_greedily(layout, text):
    """The row that is read if each field takes the longest of its texts, or None."""
    check_text(text)
    values = []
    place = 0
    for field, joint in zip(layout.fields, joints_behind(layout)):
        ends = [last for _, _, last in spots_in(field, text).spans_from([place])]
        if len(ends) == 0 or not text.startswith(joint, max(ends)):
            return None
        values.append(field.value_for(text[place:max(ends)]))
        place = max(ends) + len(joint)
    return tuple(values) if place == len(text) else None


class Reading:
    """All ways in which rows have a text.

    `spans` has for each field, as (place, first, last), the places at which its text may
    begin, each with a first and a last one at which the next field may begin then.
    `ways` has for each field, and for the end of all, in how many ways the rest of the
    text can be read from each of its places.
    """

    def __init__(self, layout, text):
        self.layout = layout
        self.text = text
        self.spans = self.all_spans()
        self.ways = self.counts_of_ways()
        self.ends = {}
        self.kept = {}

    def all_spans(self):
        places = [0]
        found = []
        for field, joint in zip(self.layout.fields, joints_behind(self.layout)):
            spans = spots_in(field, self.text).spans_from(places)
            if joint != "":
                # A separator is no sign, and so does not stand before the last place of a span.
                spans = [(place, last + 1, last + 1) for place, _, last in spans if self.text.startswith(joint, last)]
            found.append(spans)
            places = self.places_in(spans)
        return found

    def places_in(self, spans):
        """All places from the first to the last one of some of the spans, ascending."""
        steps = [0] * (len(self.text) + 2)
        for _, first, last in spans:
            steps[first] += 1
            steps[last + 1] -= 1
        return [place for place, many in enumerate(list(accumulate(steps))) if many > 0]

    def counts_of_ways(self):
        ways = [0] * len(self.text) + [1]
        found = [ways]
        for spans in reversed(self.spans):
            sums = list(accumulate([0] + ways))
            ways = [0] * len(ways)
            for place, first, last in spans:
                ways[place] += sums[last + 1] - sums[first]
            found.append(ways)
        found.reverse()
        return found

    def all_ways(self):
        return self.ways[0][0]

    def rows_from(self, index, place):
        """What rows have from a field on whose text begins at a place, in their order."""
        if index == len(self.layout.fields):
            return [()]
        key = (index, place)
        if key not in self.kept:
            self.kept[key] = [(value,) + row for value, end in self.values_at(index, place)
                              for row in self.rows_from(index + 1, end)]
        return self.kept[key]

    def values_at(self, index, place):
        """The values of a field, in their order, behind whose text at a place the rest can be read.

        Behind each of them stands the place at which the next field begins.
        """
        if index not in self.ends:
            self.ends[index] = self.hopeful_ends(index)
        field = self.layout.fields[index]
        wide = len(joints_behind(self.layout)[index])
        found = []
        for end in self.ends[index].get(place, []):
            value = field.value_for(self.text[place:end - wide])
            at = len(found)
            # But for listed texts, longer ones are later ones, and stay where they come.
            while at > 0 and field.puts_before(value, found[at - 1][0]):
                at -= 1
            found.insert(at, (value, end))
        return found

    def hopeful_ends(self, index):
        """For each place where the text of a field may begin, the places behind it from which the rest can be read."""
        places = [place for place, many in enumerate(self.ways[index + 1]) if many > 0]
        found = {}
        for place, first, last in self.spans[index]:
            ends = places[first_from(places, first):first_from(places, last + 1)]
            found.setdefault(place, []).extend(ends)
        return found

    def row_with_number(self, number):
        """The row before which as many other ones have the text, in the order of rows."""
        row = ()
        place = 0
        for index in range(len(self.layout.fields)):
            for value, end in self.values_at(index, place):
                if number < self.ways[index + 1][end]:
                    break
                number -= self.ways[index + 1][end]
            row += (value,)
            place = end
        return row

    def rows_before(self, row):
        """The number of the rows with the text that are before this one, which has it, too."""
        many = 0
        place = 0
        for index, own in enumerate(row):
            for value, end in self.values_at(index, place):
                if value == own:
                    break
                many += self.ways[index + 1][end]
            place = end
        return many
