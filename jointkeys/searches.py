"""Two readers who go side by side through the same characters, in the cheapest way."""

from heapq import heappop, heappush


class Search:
    """The search for two rows that come apart at a fork, with the fewest characters.

    One reader reads the text of the one row, the other reader that of the other
    row. A class below this one tells where both have seen enough.
    """

    def __init__(self, net, both):
        self.net = net
        # How much a character costs that both read: do those of both rows count, or of the one alone?
        self.cost = 2 if both else 1
        self.queue = []
        self.costs = {}
        self.origins = {}
        self.best = None
        self.traces = None

    def ending(self, one, other):
        """What may follow in these states that ends the search, or None.

        It is (sign, state, sign, state), for the one row and for the other one: a
        character or "", and the state behind it, from which the shortest way is taken.
        """
        return None

    def least_cost(self, one, other):
        """The cost of the shortest ways from two states to the end."""
        return self.net.rests[one] + (self.net.rests[other] if self.cost == 2 else 0)

    def trace_cost(self, one, other):
        counted = one + other if self.cost == 2 else one
        return len(counted) - counted.count(" ")

    def ending_cost(self, ending):
        sign, state, other_sign, other_state = ending
        return self.trace_cost(sign, other_sign) + self.least_cost(state, other_state)

    def is_better(self, cost):
        """Whether a cost is less than that of the best traces so far."""
        return self.best is None or cost < self.best

    def begin(self, one, other, trace, other_trace):
        """Lets the readers begin in two states, behind the traces that lead there."""
        self.reach(self.trace_cost(trace, other_trace), one, other, (None, trace, other_trace))

    def begin_at(self, fork, shorter_is_one):
        """Lets the readers begin at a fork: the one reader behind the shorter text, or the other one."""
        trace = self.net.head(fork.index) + fork.text
        behind = self.net.behind[fork.index]
        if shorter_is_one:
            self.begin(behind, fork.state, trace + " ", trace)
        else:
            self.begin(fork.state, behind, trace, trace + " ")

    def reach(self, cost, one, other, origin):
        pair = (one, other)
        if pair not in self.costs or cost < self.costs[pair]:
            self.costs[pair] = cost
            self.origins[pair] = origin
            # Of pairs with the same bound those that have come farther stand first.
            heappush(self.queue, (cost + self.least_cost(one, other), -cost, one, other))

    def offer(self, trace, other_trace):
        """Keeps two whole traces, if there are none yet that are as short."""
        cost = self.trace_cost(trace, other_trace)
        if self.is_better(cost):
            self.best = cost
            self.traces = (trace, other_trace)

    def run(self):
        """The rows that are found, or None."""
        while self.queue:
            bound, negative, one, other = heappop(self.queue)
            if not self.is_better(bound):
                break
            # What is left of a dearer way to the same states is passed over.
            if -negative == self.costs[(one, other)]:
                self.end(one, other)
                if self.is_better(bound):
                    self.go_on(one, other)
        if self.traces is None:
            return None
        return (self.net.row_of(self.traces[0]), self.net.row_of(self.traces[1]))

    def end(self, one, other):
        ending = self.ending(one, other)
        if ending is None or not self.is_better(self.costs[(one, other)] + self.ending_cost(ending)):
            return
        sign, state, other_sign, other_state = ending
        trace, other_trace = self.way_to(one, other)
        self.offer(trace + sign + self.net.tail(state), other_trace + other_sign + self.net.tail(other_state))

    def go_on(self, one, other):
        net = self.net
        cost = self.costs[(one, other)]
        if net.jumps[one] is not None:
            self.reach(cost, net.jumps[one], other, ((one, other), " ", ""))
        if net.jumps[other] is not None:
            self.reach(cost, one, net.jumps[other], ((one, other), "", " "))
        for sign, behind in net.moves[one].items():
            if sign in net.moves[other]:
                self.reach(cost + self.cost, behind, net.moves[other][sign], ((one, other), sign, sign))

    def way_to(self, one, other):
        """The traces of both readers from the beginning up to two states."""
        traces = []
        other_traces = []
        pair = (one, other)
        while pair is not None:
            pair, trace, other_trace = self.origins[pair]
            traces.append(trace)
            other_traces.append(other_trace)
        return ("".join(reversed(traces)), "".join(reversed(other_traces)))
