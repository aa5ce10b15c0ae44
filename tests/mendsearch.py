"""Mending by the words of the document: a search through all rows of all stretches, and all sets of joints."""

from itertools import combinations, product

from jointkeys.layouts import Layout
from tests.rowsearch import Rows


def joints_of(kind, first, last):
    return range(first, last + 1 if kind == "open" else last)


def shows(kind, known, one, other):
    """Whether two rows, given in the order of the rows, show that their stretch is broken in this way."""
    text, other_text = known.text_of(one), known.text_of(other)
    if one[0] == other[0]:
        return False
    if kind == "alike":
        return text == other_text
    if kind == "crossed":
        unlike = [(a, b) for a, b in zip(text, other_text) if a != b]
        return bool(unlike) and unlike[0][0] > unlike[0][1]
    return text != other_text and (text.startswith(other_text) or other_text.startswith(text))


class Stretches:
    """All broken stretches of small fields, whatever the wish: a kind, a first and a last field for each."""

    def __init__(self, fields, longest=2):
        self.fields = list(fields)
        self.known = {}
        self.broken = set()
        for first, last in combinations(range(len(fields) + 1), 2):
            inner = self.fields[first:last]
            known = Rows(Layout(inner, [""] * (len(inner) - 1)), longest)
            self.known[first, last - 1] = known
            for one, other in combinations(known.rows, 2):
                if one[0] != other[0]:
                    for kind in ("alike", "crossed", "open"):
                        if (kind, first, last - 1) not in self.broken and shows(kind, known, one, other):
                            self.broken.add((kind, first, last - 1))

    def for_wish(self, order, scans):
        return [(kind, first, last) for kind, first, last in self.broken
                if kind == "alike" or (kind == "crossed" and order) or (kind == "open" and last in scans)]

    def least(self, order, scans):
        """What [15] says of the list, with a kind, a first and a last field for each."""
        found = self.for_wish(order, scans)
        alone = [each for each in found if each[0] == "crossed" and each[1] == each[2]]
        others = [each for each in found if each not in alone]
        joints = [set(joints_of(*each)) for each in others]
        least = {}
        for each, own in zip(others, joints):
            if not any(other and other < own for other in joints):
                key = tuple(sorted(own))
                least[key] = min(least.get(key, each), each)
        return sorted(alone + list(least.values()), key=lambda each: (each[1], each not in alone))


def sets_of_joints(fields):
    many = len(fields) - 1
    return [chosen for count in range(many + 1) for chosen in combinations(range(many), count)]


def grants(fields, joints, order, scans, longest=2):
    known = Rows(Layout(fields, ["!" if k in joints else "" for k in range(len(fields) - 1)]), longest)
    if known.least_alike() is not None or (order and known.least_unsorted() is not None):
        return False
    return all(known.least_strangers(k) is None for k in scans)


def closed(fields, longest=2):
    """[17] by its words: all separators are tried."""
    ways = sorted(product(["", "!", "~"], repeat=len(fields) - 1),
                  key=lambda joints: (len(joints) - joints.count(""), joints))
    for joints in ways:
        if Rows(Layout(fields, joints), longest).least_unsorted() is None:
            return joints
    return None
