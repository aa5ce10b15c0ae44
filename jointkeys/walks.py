"""Two readers of unlike values of a field, who go on field by field as long as they read the same characters."""

from jointkeys.signs import greatest_in, least_of
from jointkeys.traces import JUMP, OTHER_JUMP, way_to


class Walk:
    """The walk of two readers from the forks of a field, through the fields behind it.

    `one` is the reader of the earlier value and `other` that of the later one, each in
    a state of the net, which has no separators. `last` is the last field that they have
    read so far. `alike` has states, if there are some, from which both read the same up
    to the end of it. `crossed` has states, if there are some, and what follows there, in
    which the one reads a greater sign than the other.
    """

    def __init__(self, net, index):
        self.net = net
        self.index = index
        self.last = index
        self.origins = {}
        # The states in which one of them is behind the last field.
        self.waiting = []
        self.alike = None
        self.crossed = None
        behind = net.behind[index]
        for fork in net.forks(index):
            pair = (behind, fork.state) if fork.ahead else (fork.state, behind)
            self.reach(self.waiting, pair, None, fork)

    def reach(self, queue, pair, before, step):
        if pair not in self.origins:
            self.origins[pair] = (before, step)
            queue.append(pair)

    def read_next(self):
        """Reads the next field, too; nothing but `alike` counts when this has been found."""
        self.last += 1
        queue = self.waiting
        self.waiting = []
        at = 0
        while at < len(queue) and self.alike is None:
            one, other = queue[at]
            at += 1
            if one == other:
                self.alike = (one, other)
            else:
                self.go_on(queue, one, other)

    def go_on(self, queue, one, other):
        net = self.net
        before = (one, other)
        one_is_in = net.places[one] <= self.last
        other_is_in = net.places[other] <= self.last
        if one_is_in and net.jumps[one] is not None:
            self.reach(queue, (net.jumps[one], other), before, JUMP)
        if other_is_in and net.jumps[other] is not None:
            self.reach(queue, (one, net.jumps[other]), before, OTHER_JUMP)
        if not one_is_in or not other_is_in:
            self.waiting.append(before)
            return
        for mask, state, _, high in net.moves[one]:
            for other_mask, other_state, low, _ in net.moves[other]:
                if mask & other_mask:
                    self.reach(queue, (state, other_state), before, mask & other_mask)
                if high > low and self.crossed is None:
                    self.crossed = (before, mask, state, other_mask, other_state)

    def first_open(self, one_is_shorter):
        """States in which the one reader is behind the last field, and the other one has more to read, or None.

        If it could also end without more, they would be alike.
        """
        goal = self.net.behind[self.last]
        for one, other in self.waiting:
            if goal == (one if one_is_shorter else other):
                return (one, other)
        return None

    def rows_alike(self):
        """Two rows of the fields that were read, with the same text, the earlier one first."""
        _, trace, other_trace = way_to(self.net, self.origins, self.alike)
        return (self.row(trace, self.alike[0]), self.row(other_trace, self.alike[1]))

    def rows_crossed(self):
        """Two rows of the fields that were read, with crossed texts, the earlier one first."""
        pair, mask, state, other_mask, other_state = self.crossed
        _, trace, other_trace = way_to(self.net, self.origins, pair)
        return (self.row(trace + greatest_in(mask), state), self.row(other_trace + least_of(other_mask), other_state))

    def rows_open(self):
        """Two rows, the text of the first one being a beginning of the other one's and shorter, or None."""
        for one_is_shorter in (True, False):
            pair = self.first_open(one_is_shorter)
            if pair is not None:
                _, trace, other_trace = way_to(self.net, self.origins, pair)
                if one_is_shorter:
                    return (self.row(trace, pair[0]), self.longer_row(other_trace, pair[1]))
                return (self.row(other_trace, pair[1]), self.longer_row(trace, pair[0]))
        return None

    def row(self, trace, state):
        """The row of the fields that were read whose trace begins so, and goes on in a shortest way."""
        return self.net.row_of(self.index, trace + self.net.tail(state, self.net.behind[self.last]))

    def longer_row(self, trace, state):
        """A row whose trace begins so, and goes on with a character at least."""
        while self.net.moves[state] == ():
            trace += " "
            state = self.net.jumps[state]
        mask, state = self.net.shortest_move(state)
        return self.row(trace + least_of(mask), state)
