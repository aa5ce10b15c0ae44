"""What a layout keeps: is it read back, sorted, scanned at a joint, read greedily?"""

from jointkeys.errors import NoJoint
from jointkeys.layouts import is_ahead, is_sequence
from jointkeys.nets import END, Net
from jointkeys.numerals import is_number
from jointkeys.searches import Search
from jointkeys.unlike import crossed_texts


def as_tuples(thing):
    """A sequence as a tuple, also those inside; anything else as it is."""
    return tuple([as_tuples(item) for item in thing]) if is_sequence(thing) else thing


class Pair:
    """Two rows that show together what a layout does not keep."""

    def __init__(self, one, other):
        self.one = as_tuples(one)
        self.other = as_tuples(other)

    def __eq__(self, other):
        return type(self) is type(other) and self.one == other.one and self.other == other.other


class AlikeSearch(Search):
    """For two rows with the same text."""

    def least_cost(self, one, other):
        # The characters count once, for both read the same ones up to the end.
        return max(self.net.rests[one], self.net.rests[other])

    def end(self, cost, one, other):
        # From one and the same state both take the same way.
        if one == other:
            self.keep_here(cost, one, other)


class UnsortedSearch(Search):
    """For a row, before another one, whose text is not less."""

    def end(self, cost, one, other):
        rests = self.net.rests
        if rests[other] == 0:
            self.keep_here(cost, one, other)
        for mask, state, _, high in self.net.moves[one]:
            for other_mask, other_state, low, _ in self.net.moves[other]:
                if high > low:
                    self.keep(cost + rests[state] + rests[other_state] + 2, one, other,
                              mask, state, other_mask, other_state)


class StrangerSearch(Search):
    """For a row and its stranger at a joint; `goal` is the state behind the head."""

    def __init__(self, net, goal):
        Search.__init__(self, net, 2)
        self.goal = goal

    def end(self, cost, one, other):
        if one == self.goal:
            self.keep_here(cost, one, other)


class MistakenSearch(Search):
    """For a row in whose text a longer text of a field stands than the row's own one."""

    def least_cost(self, one, other):
        # Of the text of the other reader, what is left of the field is to stand in that of the one, too.
        rests = self.net.rests
        behind = self.net.behind[self.net.places[other]]
        return max(rests[one], rests[other] - rests[behind])

    def end(self, cost, one, other):
        if self.net.jumps[other] is not None:
            self.keep_here(cost, one, other)


def all_forks(net):
    return [fork for index in range(len(net.starts)) for fork in net.forks(index)]


def alike_rows(layout):
    """Two unlike rows with the same text, the shortest one, or None."""
    net = Net(layout)
    search = AlikeSearch(net, 1)
    for fork in all_forks(net):
        search.begin_at(fork, True)
    found = search.run()
    if found is None:
        return None
    one, other = found
    return Pair(one, other) if is_ahead(layout, one, other) else Pair(other, one)


def unsorted_rows(layout):
    """A row and a later one whose texts are not in this order, the shortest ones, or None."""
    net = Net(layout)
    search = UnsortedSearch(net, 2)
    crossed = crossed_values(net)
    if crossed is not None:
        search.best = crossed[0]
    for fork in all_forks(net):
        search.begin_at(fork, fork.ahead)
    found = search.run()
    if found is None and crossed is not None:
        _, index, texts = crossed
        found = [net.row_of(0, net.head(index) + text + " " + net.tail(net.behind[index], END)) for text in texts]
    return None if found is None else Pair(found[0], found[1])


def crossed_values(net):
    """The cheapest way to have two rows with crossed values of one field, or None.

    It is told as (characters of both rows, index of the field, texts of the values).
    """
    best = None
    for index, field in enumerate(net.layout.fields):
        texts = crossed_texts(field)
        if texts is not None:
            around = net.head_length(index) + net.rests[net.behind[index]]
            cost = 2 * around + len(texts[0]) + len(texts[1])
            if best is None or cost < best[0]:
                best = (cost, index, texts)
    return best


def strangers(layout, k):
    """A row, and another one whose text begins with its head but not its values, or None."""
    if not is_number(k) or k < 0 or k >= len(layout.joints):
        raise NoJoint(k)
    net = Net(layout)
    search = StrangerSearch(net, net.starts[k + 1])
    for index in range(k + 1):
        for fork in net.forks(index):
            search.begin_at(fork, True)
            search.begin_at(fork, False)
    found = search.run()
    return None if found is None else Pair(found[0], found[1])


def mistaken_row(layout):
    """A row that is not read greedily from its text, a shortest one, or None."""
    net = Net(layout)
    search = MistakenSearch(net, 1)
    for fork in all_forks(net):
        search.begin_at(fork, True)
    found = search.run()
    return None if found is None else found[0]
