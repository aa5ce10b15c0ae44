"""How two unlike values of a field come apart: at a fork, or crossed.

A fork is where the text of one value ends and that of another one goes on. Two
values are crossed if the text of the earlier one has the greater sign where the
texts first differ.
"""

from jointkeys.fields import Ended, Listed, Marked, Number, Word
from jointkeys.kinds import least_texts
from jointkeys.numerals import digits_of
from jointkeys.signs import least_of, mask_of_digits
from jointkeys.states import add_text


class Fork:
    """Where the text of one value of a field ends and that of another one goes on.

    `text` is the shorter text, `state` that of a reader of the longer one there, and
    `ahead` tells whether the value with the shorter text is the earlier one.
    """

    def __init__(self, index, text, state, ahead):
        self.index = index
        self.text = text
        self.state = state
        self.ahead = ahead


def add_forks(net, field, start):
    """The forks of the net's field, those with a shortest text for each way to go on; adds their states."""
    if isinstance(field, Marked):
        inner = net.moves[start][-1][1]
        return [Fork(net.place, field.mark + fork.text, fork.state, fork.ahead)
                for fork in add_forks(net, field.field, inner)]
    if isinstance(field, Listed):
        return add_listed_forks(net, field.texts)
    if isinstance(field, Word) and field.most != field.least:
        # Behind a longer word there is no way to go on that there is not behind a least one.
        state = start
        for _ in range(field.least):
            state = net.moves[state][0][1]
        return [fork_at(net, min(field.signs) * field.least, state)]
    if isinstance(field, Number):
        return add_number_forks(net, start)
    return []


def fork_at(net, text, state):
    """The fork at which a text ends in this state and a longer one goes on; that has the later value."""
    ways = [(mask, behind) for mask, behind, _, _ in net.moves[state]]
    return Fork(net.place, text, net.add_state(ways, None), True)


def add_number_forks(net, start):
    texts = {start: ""}
    level = [start]
    forks = []
    skipped = {}
    while level:
        following = []
        for state in level:
            if net.jumps[state] is not None and net.moves[state] != () and state not in skipped:
                forks.append(fork_at(net, texts[state], state))
                skip_free(net, state, skipped)
            for mask, behind, _, _ in net.moves[state]:
                if behind not in texts:
                    texts[behind] = texts[state] + least_of(mask)
                    following.append(behind)
        level = following
    return forks


def skip_free(net, state, skipped):
    """Skips the states behind one in which any digits may follow: in them, only fewer digits may."""
    while len(net.moves[state]) == 1 and net.moves[state][0][0] == mask_of_digits(0, 10):
        behind = net.moves[state][0][1]
        if behind in skipped or behind == state:
            break
        skipped[behind] = True
        state = behind


def add_listed_forks(net, texts):
    """The forks of listed texts; a reader of the longer one reads this alone, for it tells the order."""
    shortest = {}
    for early, text in enumerate(texts):
        for late, longer in enumerate(texts):
            if longer != text and longer.startswith(text):
                key = (longer[len(text):], early < late)
                if key not in shortest or len(text) < len(shortest[key]):
                    shortest[key] = text
    return [Fork(net.place, text, add_text(net, rest), ahead) for (rest, ahead), text in shortest.items()]


def crossed_texts(field):
    """The shortest texts of two values that are crossed, that of the earlier one first, or None."""
    if isinstance(field, Number):
        return crossed_numbers(field)
    if isinstance(field, Ended):
        return crossed_ended(field)
    if isinstance(field, Listed):
        return crossed_listed(field.texts)
    if isinstance(field, Marked):
        return crossed_marked(field)
    return None


def crossed_numbers(field):
    # Numbers of one length stand in the order of their texts; 9 .. 9 and 1 0 .. 0 do not.
    length = len(digits_of(field.least))
    if field.most is not None and len(digits_of(field.most)) == length:
        return None
    return ("9" * length, "1" + "0" * length)


def crossed_ended(field):
    # The end of the shorter word stands beside a sign of the longer one.
    sign = min(field.signs)
    if field.most == field.least or sign > field.sign:
        return None
    word = sign * field.least
    return (word + field.sign, word + sign + field.sign)


def crossed_listed(texts):
    best = None
    for late, other in enumerate(texts):
        for one in texts[:late]:
            if one > other and not one.startswith(other):
                if best is None or len(one) + len(other) < len(best[0]) + len(best[1]):
                    best = (one, other)
    return best


def crossed_marked(field):
    if field.none > field.mark:
        # No other pair is shorter, for all but that of None have a text at least as long as this one.
        return (field.none, field.mark + least_texts(field.field, 1)[0])
    inner = crossed_texts(field.field)
    return None if inner is None else (field.mark + inner[0], field.mark + inner[1])
