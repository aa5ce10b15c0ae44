"""A layout's texts, read character by character, with all states numbered.

A trace is the text of a row, or a part of it, with a blank behind the text of
each field; so it also tells where the fields end.
"""

from jointkeys.kinds import least_texts
from jointkeys.layouts import joints_behind
from jointkeys.signs import HIGH, LOW
from jointkeys.states import is_end, moves_of, reached_from, start_of
from jointkeys.unlike import forks_of

# The state behind the whole text.
END = 0


class Fork:
    """Where the text of one value of a field ends and that of another one goes on.

    `text` is the shorter text, `state` that of a reader of the longer one there, and
    `ahead` tells whether the value with the shorter text is the earlier one.
    """

    def __init__(self, index, text, state, ahead):
        self.index = index
        self.text = text
        self.state = state
        self.ahead = ahead


class Net:
    """The states of all fields and separators of a layout.

    For each state, `moves` has the states behind the characters that may follow;
    `jumps` has the state behind the field, or None if the field may not end there
    (it is a lesser number than the state's own); `rests` has the fewest characters
    from there to the end. For each field, `starts` has the state before it, and
    `behind` the state behind it, which is before the separator, if there is one.
    """

    def __init__(self, layout):
        self.layout = layout
        self.moves = [{}]
        self.jumps = [None]
        self.rests = [0]
        self.starts = [END] * len(layout.fields)
        self.behind = [END] * len(layout.fields)
        self.known = [{} for _ in layout.fields]
        goal = END
        for index in reversed(range(len(layout.fields))):
            joint = joints_behind(layout)[index]
            if joint != "":
                goal = self.add_state({joint: goal}, None, self.rests[goal] + 1)
            self.behind[index] = goal
            start = start_of(layout.fields[index])
            self.add_states(index, [start])
            goal = self.starts[index] = self.known[index][start]

    def add_state(self, moves, jump, rest):
        self.moves.append(moves)
        self.jumps.append(jump)
        self.rests.append(rest)
        return len(self.moves) - 1

    def add_states(self, index, roots):
        """Adds what is reached from these states of a field, as far as it is not there."""
        known = self.known[index]
        behind = self.behind[index]
        fresh = [state for state in reached_from(roots) if state not in known]
        # More than the rest of any of the states, until it is known.
        far = self.rests[behind] + len(known) + len(fresh) + 1
        for state in fresh:
            known[state] = self.add_state({}, behind if is_end(state) else None, far)
        for state in fresh:
            moves = moves_of(state)
            self.moves[known[state]] = {sign: known[moves[sign]] for sign in moves}
        self.settle_rests([known[state] for state in fresh])

    def settle_rests(self, numbers):
        changed = True
        while changed:
            changed = False
            for number in reversed(numbers):
                rest = self.rest_by_neighbours(number)
                if rest < self.rests[number]:
                    self.rests[number] = rest
                    changed = True

    def rest_by_neighbours(self, number):
        found = [self.rests[behind] + 1 for behind in self.moves[number].values()]
        if self.jumps[number] is not None:
            found.append(self.rests[self.jumps[number]])
        return min(found)

    def forks(self):
        """The forks of all fields, whose states are added here."""
        found = []
        for index, field in enumerate(self.layout.fields):
            forks = forks_of(field)
            self.add_states(index, [state for text, state, ahead in forks])
            for text, state, ahead in forks:
                found.append(Fork(index, text, self.known[index][state], ahead))
        return found

    def head(self, index):
        """A shortest trace up to a field."""
        return "".join([least_texts(field, 1)[0] + " " + joint
                        for field, joint in zip(self.layout.fields[:index], self.layout.joints[:index])])

    def tail(self, state):
        """A shortest trace from a state to the end."""
        trace = ""
        while state != END:
            jump = self.jumps[state]
            if jump is not None and self.rests[jump] == self.rests[state]:
                trace += " "
                state = jump
            else:
                sign = self.shortest_sign(state)
                trace += sign
                state = self.moves[state][sign]
        return trace

    def shortest_sign(self, state):
        moves = self.moves[state]
        return min([sign for sign in moves if self.rests[moves[sign]] < self.rests[state]])

    def row_of(self, trace):
        """The row with a whole trace."""
        texts = [part.strip(LOW + HIGH) for part in trace.split(" ")[:-1]]
        return tuple([field.value_for(text) for field, text in zip(self.layout.fields, texts)])
