"""What a layout keeps: is it read back, sorted, scanned at a joint, read greedily?"""

from jointkeys.errors import NoJoint
from jointkeys.layouts import is_ahead, is_sequence
from jointkeys.nets import Net
from jointkeys.numerals import is_number
from jointkeys.searches import Search
from jointkeys.unlike import crossed_texts


def as_tuples(thing):
    """A sequence as a tuple, also those inside; anything else as it is."""
    return tuple([as_tuples(item) for item in thing]) if is_sequence(thing) else thing


class Pair:
    """Two rows that show together what a layout does not keep."""

    def __init__(self, one, other):
        self.one = as_tuples(one)
        self.other = as_tuples(other)

    def __eq__(self, other):
        return type(self) is type(other) and self.one == other.one and self.other == other.other


class AlikeSearch(Search):
    """For two rows with the same text."""

    def ending(self, one, other):
        # From one and the same state both take the same way.
        return ("", one, "", other) if one == other else None


class UnsortedSearch(Search):
    """For a row, before another one, whose text is not less."""

    def ending(self, one, other):
        endings = [(sign, state, other_sign, other_state)
                   for sign, state in self.hopeful_moves(one, True)
                   for other_sign, other_state in self.hopeful_moves(other, False) if sign > other_sign]
        if self.net.rests[other] == 0:
            endings.append(("", one, "", other))
        best = None
        for ending in endings:
            if best is None or self.ending_cost(ending) < self.ending_cost(best):
                best = ending
        return best

    def hopeful_moves(self, state, is_greatest_first):
        """The moves from a state, but those for which a sign at least as good has as short a way to the end."""
        moves = self.net.moves[state]
        signs = sorted(moves)
        if is_greatest_first:
            signs.reverse()
        found = []
        for sign in signs:
            if len(found) == 0 or self.net.rests[moves[sign]] < self.net.rests[found[-1][1]]:
                found.append((sign, moves[sign]))
        return found


class StrangerSearch(Search):
    """For a row and its stranger at a joint; `goal` is the state behind the head."""

    def __init__(self, net, goal):
        Search.__init__(self, net, True)
        self.goal = goal

    def ending(self, one, other):
        return ("", one, "", other) if one == self.goal else None


class MistakenSearch(Search):
    """For a row in whose text a longer text of a field stands than the row's own one."""

    def ending(self, one, other):
        return None if self.net.jumps[other] is None else ("", one, "", other)


def alike_rows(layout):
    """Two unlike rows with the same text, the shortest one, or None."""
    net = Net(layout)
    search = AlikeSearch(net, True)
    for fork in net.forks():
        search.begin_at(fork, True)
    found = search.run()
    if found is None:
        return None
    one, other = found
    return Pair(one, other) if is_ahead(layout, one, other) else Pair(other, one)


def unsorted_rows(layout):
    """A row and a later one whose texts are not in this order, the shortest ones, or None."""
    net = Net(layout)
    search = UnsortedSearch(net, True)
    for index, field in enumerate(layout.fields):
        texts = crossed_texts(field)
        if texts is not None:
            head = net.head(index)
            tail = " " + net.tail(net.behind[index])
            search.offer(head + texts[0] + tail, head + texts[1] + tail)
    for fork in net.forks():
        search.begin_at(fork, fork.ahead)
    found = search.run()
    return None if found is None else Pair(found[0], found[1])


def strangers(layout, k):
    """A row, and another one whose text begins with its head but not its values, or None."""
    if not is_number(k) or k < 0 or k >= len(layout.joints):
        raise NoJoint(k)
    net = Net(layout)
    search = StrangerSearch(net, net.starts[k + 1])
    for fork in net.forks():
        if fork.index <= k:
            search.begin_at(fork, True)
            search.begin_at(fork, False)
    found = search.run()
    return None if found is None else Pair(found[0], found[1])


def mistaken_row(layout):
    """A row that is not read greedily from its text, a shortest one, or None."""
    net = Net(layout)
    search = MistakenSearch(net, False)
    for fork in net.forks():
        search.begin_at(fork, True)
    found = search.run()
    return None if found is None else found[0]
