"""The states of numbers, added to a net.

What may follow in a state is told as (low, least, most, high):

- digits of the length of `low` that are not less than `low`, if it is not None;
- all digits from `least` to `most` in number, or any number from `least` on, if
  `most` is None;
- digits of the length of `high` that are not greater than `high`, if it is not None.

`least` is one more than the length of `low`, and `most` one less than that of `high`;
where `least` is greater than `most`, there are none between the two. If `low` and
`high` are of one length, both bounds hold.
"""

from jointkeys.numerals import digits_of
from jointkeys.signs import mask_of, mask_of_digits


def add_number(net, field):
    """Adds the states of a field of numbers; returns the state before the first digit."""
    states = DigitStates(net)
    low = digits_of(field.least)
    high = None if field.most is None else digits_of(field.most)
    ways = []
    if low == "0":
        # Behind a leading zero nothing follows.
        ways.append((mask_of("0"), states.state_for(None, 0, 0, None)))
        low = "1"
    most = None if high is None else len(high) - 1
    return net.add_state(ways + states.ways_from(1, low, len(low) + 1, most, high), None)


class DigitStates:
    """The states of a field of numbers, each added once."""

    def __init__(self, net):
        self.net = net
        self.known = {}

    def state_for(self, low, least, most, high):
        key = (low, least, most, high)
        if key not in self.known:
            self.known[key] = self.add_new(low, least, most, high)
        return self.known[key]

    def add_new(self, low, least, most, high):
        if least == 0 and most is None:
            # Any digits may follow, and behind each of them again.
            return self.net.add_state([(mask_of_digits(0, 10), len(self.net.moves))], self.net.goal)
        ways = self.ways_from(0, low, least, most, high)
        return self.net.add_state(ways, self.net.goal if least == 0 else None)

    def ways_from(self, first, low, least, most, high):
        """The digits from a first one on that may follow, those with the same state behind them as one mask."""
        edges = [first, 10]
        for bound in (low, high):
            if bound is not None:
                edges.extend([int(bound[0]), int(bound[0]) + 1])
        edges = [edge for edge in sorted(edges) if edge >= first]
        found = []
        for at in range(len(edges) - 1):
            if edges[at] < edges[at + 1]:
                state = self.state_behind(edges[at], low, least, most, high)
                if state is not None:
                    found.append((mask_of_digits(edges[at], edges[at + 1]), state))
        return found

    def state_behind(self, digit, low, least, most, high):
        """The state behind a digit, or None if it may not stand there."""
        new_low = new_high = None
        new_least = max(0, least - 1)
        new_most = None if most is None else most - 1
        if low is not None and digit >= int(low[0]):
            new_least = len(low) if digit == int(low[0]) else len(low) - 1
            new_low = low[1:] if digit == int(low[0]) else None
        if high is not None and digit <= int(high[0]):
            new_most = len(high) - 2 if digit == int(high[0]) else len(high) - 1
            new_high = high[1:] if digit == int(high[0]) else None
        return self.loosened(new_low, new_least, new_most, new_high)

    def loosened(self, low, least, most, high):
        """The state, or None; without bounds that leave all digits of their length."""
        if low is not None and low.strip("0") == "":
            least = len(low)
            low = None
        if high is not None and high.strip("9") == "":
            most = len(high)
            high = None
        if low is None and high is None and most is not None and least > most:
            return None
        return self.state_for(low, least, most, high)
