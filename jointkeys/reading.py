"""Reading texts: all rows with a text, how many there are, and the one that is read greedily."""

from jointkeys.errors import Large, NoText
from jointkeys.layouts import joints_behind
from jointkeys.nets import END, Net

MOST_ROWS = 1000


def check_text(text):
    if not isinstance(text, str):
        raise NoText(text)


def rows_with(layout, text):
    """All rows with a text, in their order."""
    check_text(text)
    reading = Reading(layout, text)
    many = reading.all_ways()
    if many > MOST_ROWS:
        raise Large(many)
    return reading.rows_from(0, 0)


def count_ways(layout, text):
    """The number of the rows with a text."""
    check_text(text)
    return Reading(layout, text).all_ways()


def read_greedily(layout, text):
    """The row that is read if each field takes the longest of its texts, or None."""
    check_text(text)
    net = Net(layout)
    values = []
    place = 0
    for index, joint in enumerate(joints_behind(layout)):
        end = longest_end(net, index, text, place)
        if end is None or not text.startswith(joint, end):
            return None
        values.append(layout.fields[index].value_for(text[place:end]))
        place = end + len(joint)
    return tuple(values) if place == len(text) else None


def longest_end(net, index, text, place):
    """Where the longest text of a field ends that stands at a place, or None."""
    end = None
    state = net.starts[index]
    while state is not None:
        if net.jumps[state] is not None:
            end = place
        state = state_behind(net, state, text, place)
        place += 1
    return end


def state_behind(net, state, text, place):
    """The state behind the character at a place, or None."""
    return net.moves[state].get(text[place]) if place < len(text) else None


def with_jumps(net, states):
    """These states and those at which they may be without another character, in order."""
    found = {}
    for state in states:
        while state is not None and state not in found:
            found[state] = True
            state = net.jumps[state]
    return sorted(found)


class Reading:
    """All ways in which rows have a text.

    `ways` has for each place of the text, and each state in which a reader may be
    there, in how many ways the rest can be read, if there are any.
    """

    def __init__(self, layout, text):
        self.net = Net(layout)
        self.text = text
        self.ways = [{} for _ in range(len(text) + 1)]
        self.kept = {}
        reached = self.reached_states()
        for place in reversed(range(len(reached))):
            self.count_at(place, reached[place])

    def reached_states(self):
        """For each place the states in which a reader may be there, jumps being back to lesser ones."""
        net = self.net
        reached = [with_jumps(net, [net.starts[0]])]
        for sign in self.text:
            moves = [net.moves[state] for state in reached[-1]]
            reached.append(with_jumps(net, [known[sign] for known in moves if sign in known]))
        return reached

    def count_at(self, place, states):
        here = self.ways[place]
        for state in states:
            many = 1 if state == END and place == len(self.text) else 0
            many += here.get(self.net.jumps[state], 0)
            behind = state_behind(self.net, state, self.text, place)
            if behind is not None:
                many += self.ways[place + 1].get(behind, 0)
            if many > 0:
                here[state] = many

    def all_ways(self):
        return self.ways[0].get(self.net.starts[0], 0)

    def rows_from(self, index, place):
        """What rows have from a field on whose text begins at a place, in their order."""
        if index == len(self.net.layout.fields):
            return [()]
        key = (index, place)
        if key not in self.kept:
            self.kept[key] = [(value,) + row for value, end in self.values_at(index, place)
                              for row in self.rows_from(index + 1, end)]
        return self.kept[key]

    def values_at(self, index, place):
        """The values of a field, in their order, with which a reader at a place comes to an end.

        Behind each of them stands the place at which the next field begins.
        """
        layout = self.net.layout
        field = layout.fields[index]
        wide = len(joints_behind(layout)[index])
        found = []
        for end in self.ends_from(index, place):
            value = field.value_for(self.text[place:end])
            at = len(found)
            # But for listed texts, longer ones are later ones, and stay where they come.
            while at > 0 and field.puts_before(value, found[at - 1][0]):
                at -= 1
            found.insert(at, (value, end + wide))
        return found

    def ends_from(self, index, place):
        found = []
        state = self.net.starts[index]
        while state is not None and state in self.ways[place]:
            if self.net.jumps[state] in self.ways[place]:
                found.append(place)
            state = state_behind(self.net, state, self.text, place)
            place += 1
        return found
