"""The texts of fields, read sign by sign.

A state tells what may still follow of a field's text. Equal tuples mean the same:

- ("words", signs, least, most, end): a word of these signs, and behind it the string `end`;
- ("numbers", spans): digits of one of the spans; a span (low, high) has all digits
  from `low` to `high`, which are of one length, and (low, None) all with at least
  as many digits as `low`, where the first one is not less;
- ("listed", texts): one of these strings;
- ("marked", none, mark, state): the sign `none`, or `mark` and what may follow in the state;
- ("more", state): what may follow in the state, but not nothing.
"""

from jointkeys.fields import Ended, Fixed, Listed, Number, Word
from jointkeys.numerals import digits_of
from jointkeys.signs import DIGITS

DONE = ("listed", ("",))


def start_of(field):
    """The state before the first sign of a text."""
    if isinstance(field, Word):
        return ("words", field.signs, field.least, field.most, "")
    if isinstance(field, Ended):
        return ("words", field.signs, field.least, field.most, field.sign)
    if isinstance(field, Fixed):
        return ("words", DIGITS, field.width, field.width, "")
    if isinstance(field, Number):
        return ("numbers", spans_of(field))
    if isinstance(field, Listed):
        return ("listed", tuple(sorted(field.texts)))
    return ("marked", field.none, field.mark, start_of(field.field))


def spans_of(field):
    """The numbers of a field, those of each length as one span."""
    low = digits_of(field.least)
    if field.most is None:
        return ((low, "9" * len(low)), ("1" + "0" * len(low), None))
    high = digits_of(field.most)
    spans = []
    while len(low) < len(high):
        spans.append((low, "9" * len(low)))
        low = "1" + "0" * len(low)
    spans.append((low, high))
    return tuple(spans)


def moves_of(state):
    """The signs that may follow, each with the state behind it."""
    if state[0] == "words":
        return moves_of_words(state)
    if state[0] == "numbers":
        return moves_of_numbers(state[1])
    if state[0] == "listed":
        return moves_of_listed(state[1])
    if state[0] == "marked":
        return {state[1]: DONE, state[2]: state[3]}
    return moves_of(state[1])


def moves_of_words(state):
    _, signs, least, most, end = state
    moves = {}
    if most != 0:
        fewer = None if most is None else most - 1
        behind = ("words", signs, max(0, least - 1), fewer, end)
        moves = {sign: behind for sign in signs}
    if least == 0 and end != "":
        moves[end] = DONE
    return moves


def moves_of_numbers(spans):
    moves = {}
    for digit in DIGITS:
        behind = [span_behind(span, digit) for span in spans]
        left = tuple([span for span in behind if span is not None])
        if left != ():
            moves[digit] = ("numbers", left)
    return moves


def span_behind(span, digit):
    """What is left of a span behind a digit, or None."""
    low, high = span
    if high is None:
        if low == "":
            return span
        return None if digit < low[0] else (low[1:], None)
    if low == "" or digit < low[0] or digit > high[0]:
        return None
    left = len(low) - 1
    return (low[1:] if digit == low[0] else "0" * left, high[1:] if digit == high[0] else "9" * left)


def moves_of_listed(texts):
    firsts = sorted({text[0] for text in texts if text != ""})
    return {sign: ("listed", tuple([text[1:] for text in texts if text.startswith(sign)])) for sign in firsts}


def is_end(state):
    """Whether nothing may follow."""
    if state[0] == "words":
        return state[2] == 0 and state[4] == ""
    if state[0] == "numbers":
        return any([low == "" for low, _ in state[1]])
    if state[0] == "listed":
        return "" in state[1]
    return False


def reached_from(starts):
    """All states that come from these, each with a shortest text that leads there."""
    texts = {start: "" for start in starts}
    level = list(texts)
    while level:
        following = []
        for state in level:
            for sign, behind in moves_of(state).items():
                if behind not in texts:
                    texts[behind] = texts[state] + sign
                    following.append(behind)
        level = following
    return texts
