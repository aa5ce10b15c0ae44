"""Two readers who go side by side through the same characters, in the cheapest way."""

from heapq import heappop, heappush

from jointkeys.nets import END
from jointkeys.signs import greatest_in, least_of
from jointkeys.traces import JUMP, OTHER_JUMP, way_to


class Search:
    """The search for two rows that come apart at a fork, with the fewest characters.

    One reader reads the text of the one row, the other reader that of the other
    row. A class below this one tells where both have seen enough, and what is left then.
    """

    def __init__(self, net, cost):
        self.net = net
        # What a character costs that both read.
        self.cost = cost
        self.queue = []
        self.costs = {}
        self.origins = {}
        self.best = None
        self.ending = None

    def least_cost(self, one, other):
        """No more than the ways from two states to an ending cost; no less than what a step saves of that."""
        return self.net.rests[one] + self.net.rests[other]

    def end(self, cost, one, other):
        """Keeps the endings in these states, of which the cheapest one is left; the classes below tell them."""

    def keep_here(self, cost, one, other):
        """Keeps the ending in these states from which both take a shortest way."""
        self.keep(cost + self.least_cost(one, other), one, other)

    def keep(self, cost, one, other, mask=0, state=None, other_mask=0, other_state=None):
        """Keeps an ending, if it is cheaper than the others: the states in which both readers have seen enough.

        Perhaps each takes one of some characters there, and is then in another state.
        """
        if self.best is None or cost < self.best:
            self.best = cost
            self.ending = (one, other, mask, state, other_mask, other_state)

    def begin_at(self, fork, shorter_is_one):
        """Lets the readers begin at a fork: the one reader behind the shorter text, or the other one."""
        cost = self.cost * (self.net.head_length(fork.index) + len(fork.text))
        behind = self.net.behind[fork.index]
        if shorter_is_one:
            self.reach(cost, behind, fork.state, None, fork)
        else:
            self.reach(cost, fork.state, behind, None, fork)

    def reach(self, cost, one, other, before, step):
        pair = (one, other)
        if pair not in self.costs or cost < self.costs[pair]:
            self.costs[pair] = cost
            self.origins[pair] = (before, step)
            # Of pairs with the same bound those that have come farther stand first.
            heappush(self.queue, (cost + self.least_cost(one, other), -cost, one, other))

    def run(self):
        """The rows that are found, or None."""
        while self.queue:
            bound, negative, one, other = heappop(self.queue)
            if self.best is not None and bound >= self.best:
                break
            # What is left of a dearer way to the same states is passed over.
            if -negative == self.costs[(one, other)]:
                self.end(-negative, one, other)
                if self.best is None or bound < self.best:
                    self.go_on(-negative, one, other)
        return None if self.ending is None else self.rows()

    def go_on(self, cost, one, other):
        jumps = self.net.jumps
        moves = self.net.moves
        before = (one, other)
        if jumps[one] is not None:
            self.reach(cost, jumps[one], other, before, JUMP)
        if jumps[other] is not None:
            self.reach(cost, one, jumps[other], before, OTHER_JUMP)
        cost += self.cost
        for mask, state, _, _ in moves[one]:
            for other_mask, other_state, _, _ in moves[other]:
                if mask & other_mask:
                    self.reach(cost, state, other_state, before, mask & other_mask)

    def rows(self):
        """The rows whose readers come to the ending that is kept."""
        one, other, mask, state, other_mask, other_state = self.ending
        fork, trace, other_trace = way_to(self.net, self.origins, (one, other))
        head = self.net.head(fork.index)
        if state is None:
            return (self.row(head + trace, one), self.row(head + other_trace, other))
        return (self.row(head + trace + greatest_in(mask), state),
                self.row(head + other_trace + least_of(other_mask), other_state))

    def row(self, trace, state):
        """The row whose trace begins so, and goes on in a shortest way."""
        return self.net.row_of(0, trace + self.net.tail(state, END))
