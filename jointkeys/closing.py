"""Closing fields: the fewest separators with which they are sorted."""

from jointkeys.layouts import bare_layout, check_fields
from jointkeys.nets import Net
from jointkeys.signs import HIGH, LOW
from jointkeys.unlike import crossed_texts
from jointkeys.walks import Walk


def closed_joints(fields):
    """The joints of a sorted layout of these fields with the fewest separators, or None."""
    check_fields(fields)
    if not all([crossed_texts(field) is None for field in fields]):
        return None
    net = Net(bare_layout(fields))
    many = len(fields)
    closings = [closings_from(net, index) for index in range(many)]
    # For each field the number of separators and the joints from there on, or None.
    best = [None] * many
    for first in reversed(range(many)):
        ways = []
        for last in range(first, many):
            ways.extend(ways_behind(best, first, last, common_closings(closings, first, last)))
        if len(ways) > 0:
            best[first] = min(ways)
    return None if best[0] is None else best[0][1]


def closings_from(net, index):
    """For each field from one on, the separators behind it that keep the order of rows that differ in that one.

    The end of all stands before all signs, as LOW does.
    """
    walk = Walk(net, index)
    found = {}
    while walk.alike is None and walk.crossed is None:
        found[walk.last] = [separator for separator, one_is_shorter in ((LOW, False), (HIGH, True))
                            if walk.first_open(one_is_shorter) is None]
        if walk.last == len(net.starts) - 1:
            break
        walk.read_next()
    return found


def common_closings(closings, first, last):
    """The separators that close a block of fields so that it is sorted."""
    return [separator for separator in (LOW, HIGH)
            if all([separator in closings[index].get(last, []) for index in range(first, last + 1)])]


def ways_behind(best, first, last, separators):
    """The ways to have this block first, each as the number of separators and the joints."""
    inner = ("",) * (last - first)
    if last == len(best) - 1:
        return [(0, inner)] if LOW in separators else []
    if best[last + 1] is None:
        return []
    many, joints = best[last + 1]
    return [(many + 1, inner + (separator,) + joints) for separator in separators]
