"""How two unlike values of a field come apart: at a fork, or crossed.

A fork is where the text of one value ends and that of another one goes on. Two
values are crossed if the text of the earlier one has the greater sign where the
texts first differ.
"""

from jointkeys.fields import Ended, Listed, Marked, Number
from jointkeys.kinds import least_texts
from jointkeys.numerals import digits_of
from jointkeys.states import is_end, moves_of, reached_from, start_of


def forks_of(field):
    """The forks of a field, those with a shortest text for each way to go on.

    Each is (text, state, ahead): the shorter text, the state of the longer one there,
    and whether the value with the shorter text is the earlier one.
    """
    if isinstance(field, Marked):
        return [(field.mark + text, state, ahead) for text, state, ahead in forks_of(field.field)]
    if isinstance(field, Listed):
        # A state of several listed texts does not tell which one it will be, and so not the order.
        return [(text, ("listed", (longer[len(text):],)), early < late)
                for early, text in enumerate(field.texts) for late, longer in enumerate(field.texts)
                if longer != text and longer.startswith(text)]
    # Longer words and longer numbers are later ones.
    return [(text, ("more", state), True) for state, text in reached_from([start_of(field)]).items()
            if is_end(state) and len(moves_of(state)) > 0]


def crossed_texts(field):
    """The shortest texts of two values that are crossed, that of the earlier one first, or None."""
    if isinstance(field, Number):
        return crossed_numbers(field)
    if isinstance(field, Ended):
        return crossed_ended(field)
    if isinstance(field, Listed):
        return crossed_listed(field.texts)
    if isinstance(field, Marked):
        return crossed_marked(field)
    return None


def crossed_numbers(field):
    # Numbers of one length stand in the order of their texts; 9 .. 9 and 1 0 .. 0 do not.
    length = len(digits_of(field.least))
    if field.most is not None and len(digits_of(field.most)) == length:
        return None
    return ("9" * length, "1" + "0" * length)


def crossed_ended(field):
    # The end of the shorter word stands beside a sign of the longer one.
    sign = min(field.signs)
    if field.most == field.least or sign > field.sign:
        return None
    word = sign * field.least
    return (word + field.sign, word + sign + field.sign)


def crossed_listed(texts):
    best = None
    for late, other in enumerate(texts):
        for one in texts[:late]:
            if one > other and not one.startswith(other):
                if best is None or len(one) + len(other) < len(best[0]) + len(best[1]):
                    best = (one, other)
    return best


def crossed_marked(field):
    if field.none > field.mark:
        # No other pair is shorter, for all but that of None have a text at least as long as this one.
        return (field.none, field.mark + least_texts(field.field, 1)[0])
    inner = crossed_texts(field.field)
    return None if inner is None else (field.mark + inner[0], field.mark + inner[1])
