"""A layout's texts, read character by character, with all states numbered.

A trace is the text of a row, or a part of it, with a blank behind the text of
each field; so it also tells where the fields end.
"""

from jointkeys.layouts import joints_behind
from jointkeys.signs import CHARACTERS, HIGH, LOW, least_of
from jointkeys.states import add_field
from jointkeys.unlike import add_forks

# The state behind the whole text.
END = 0


class Net:
    """The states of all fields and separators of a layout.

    For each state, `moves` has what may follow, as tuples (mask, state, low, high): the
    characters, the state behind them, and the place of the least and of the greatest
    one, counted from 1; `jumps` has the state behind the field, or None if the field may
    not end there; `rests` has the fewest characters from there to the end; `places` has
    the index of the field. But for states that lead to themselves, all these states have
    lesser numbers than the state's own. For each field, `starts` has the state before
    it, and `behind` the state behind it, which is before the separator, if there is one.
    """

    def __init__(self, layout):
        many = len(layout.fields)
        self.layout = layout
        self.moves = [()]
        self.jumps = [None]
        self.rests = [0]
        self.places = [many]
        self.starts = [END] * many
        self.behind = [END] * many
        # The states of listed fields, by the texts that follow.
        self.known = [{} for _ in layout.fields]
        # The field whose states are added, and the state behind it.
        self.place = many
        self.goal = END
        for index in reversed(range(many)):
            self.place = index
            joint = joints_behind(layout)[index]
            if joint != "":
                self.goal = self.add_sign(joint, self.goal)
            self.behind[index] = self.goal
            self.goal = self.starts[index] = add_field(self, layout.fields[index])

    def add_state(self, ways, jump):
        """Adds a state with these masks and the states behind them; returns its number."""
        number = len(self.moves)
        rest = None if jump is None else self.rests[jump]
        moves = []
        for mask, state in ways:
            moves.append((mask, state, (mask & -mask).bit_length(), mask.bit_length()))
            if state < number and (rest is None or self.rests[state] < rest):
                rest = self.rests[state] + 1
        self.moves.append(tuple(moves))
        self.jumps.append(jump)
        self.rests.append(rest)
        self.places.append(self.place)
        return number

    def add_sign(self, sign, state):
        """Adds a state in which just this sign follows, and this state behind it."""
        at = CHARACTERS.index(sign)
        self.moves.append(((1 << at, state, at + 1, at + 1),))
        self.jumps.append(None)
        self.rests.append(self.rests[state] + 1)
        self.places.append(self.place)
        return len(self.moves) - 1

    def add_chain(self, mask, state, many, jump):
        """Adds states, one before the other, each with one of the same characters to the next one."""
        low = (mask & -mask).bit_length()
        high = mask.bit_length()
        for _ in range(many):
            self.moves.append(((mask, state, low, high),))
            self.jumps.append(jump)
            self.rests.append(self.rests[state] + 1 if jump is None else self.rests[jump])
            self.places.append(self.place)
            state = len(self.moves) - 1
        return state

    def forks(self, index):
        """The forks of a field, whose states are added here."""
        self.place = index
        self.goal = self.behind[index]
        return add_forks(self, self.layout.fields[index], self.starts[index])

    def head_length(self, index):
        """The number of characters of a shortest text up to a field."""
        return self.rests[self.starts[0]] - self.rests[self.starts[index]]

    def head(self, index):
        """A shortest trace up to a field."""
        return self.tail(self.starts[0], self.starts[index])

    def tail(self, state, goal):
        """A shortest trace from a state to another one that is before a field or behind all."""
        trace = ""
        while state != goal:
            if self.jumps[state] is not None:
                trace += " "
                state = self.jumps[state]
            else:
                mask, state = self.shortest_move(state)
                trace += least_of(mask)
        return trace

    def shortest_move(self, state):
        """The characters that may follow on a shortest way to the end, and the state behind them."""
        best = None
        for mask, following, _, _ in self.moves[state]:
            if best is None or self.rests[following] < self.rests[best[1]]:
                best = (mask, following)
        return best

    def row_of(self, first, trace):
        """What a row has from a field on with this trace."""
        texts = [part.strip(LOW + HIGH) for part in trace.split(" ")[:-1]]
        return tuple([field.value_for(text) for field, text in zip(self.layout.fields[first:], texts)])
