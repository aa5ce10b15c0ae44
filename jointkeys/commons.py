"""Texts that two layouts have in common."""

from jointkeys.nets import END, Net
from jointkeys.signs import least_of


def common_text(layout, other):
    """The shortest text, and of several the least, that rows of both layouts have, or None."""
    readers = Readers(Net(layout), Net(other))
    # Texts of one length, ascending; with each, the states that no lesser or shorter text leads to.
    level = [("", readers.fresh([(readers.one.starts[0], readers.other.starts[0])]))]
    while level:
        following = []
        for text, pairs in level:
            if (END, END) in pairs:
                return text
            following.extend(readers.texts_behind(text, pairs))
        level = following
    return None


class Readers:
    """Two readers of the same characters, each of them in a state of a net."""

    def __init__(self, one, other):
        self.one = one
        self.other = other
        self.seen = {}

    def fresh(self, pairs):
        """Those of these states, and of those reached from them without a character, that were not seen before."""
        found = []
        for one, other in pairs:
            while one is not None:
                behind = other
                while behind is not None:
                    if (one, behind) not in self.seen:
                        self.seen[(one, behind)] = True
                        found.append((one, behind))
                    behind = self.other.jumps[behind]
                one = self.one.jumps[one]
        return found

    def texts_behind(self, text, pairs):
        """The texts with one character more, ascending, each with the states that are not seen before."""
        behind = {}
        for one, other in pairs:
            for mask, state, _, _ in self.one.moves[one]:
                for other_mask, other_state, _, _ in self.other.moves[other]:
                    common = mask & other_mask
                    if common:
                        # Greater characters lead to the same states, and so to no lesser texts.
                        behind.setdefault(least_of(common), []).append((state, other_state))
        found = []
        for character in sorted(behind):
            states = self.fresh(behind[character])
            if len(states) > 0:
                found.append((text + character, states))
        return found
