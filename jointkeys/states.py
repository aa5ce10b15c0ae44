"""The states of fields, added to a net: what may follow within the text of a field."""

from jointkeys.digitstates import add_number
from jointkeys.fields import Ended, Fixed, Listed, Number, Word
from jointkeys.signs import mask_of, mask_of_digits


def add_field(net, field):
    """Adds the states of a field before the net's goal; returns the state before the first sign."""
    if isinstance(field, Word):
        return add_words(net, field)
    if isinstance(field, Ended):
        return add_ended(net, field)
    if isinstance(field, Fixed):
        return net.add_chain(mask_of_digits(0, 10), add_done(net), field.width, None)
    if isinstance(field, Number):
        return add_number(net, field)
    if isinstance(field, Listed):
        return add_texts(net, tuple(sorted(field.texts)))
    inner = add_field(net, field.field)
    return net.add_state([(mask_of(field.none), add_done(net)), (mask_of(field.mark), inner)], None)


def add_done(net):
    """Adds a state in which nothing of the field may follow."""
    return net.add_state([], net.goal)


def add_words(net, field):
    mask = mask_of(field.signs)
    if field.most is None:
        state = net.add_state([(mask, len(net.moves))], net.goal)
    else:
        state = net.add_chain(mask, add_done(net), field.most - field.least, net.goal)
    return net.add_chain(mask, state, field.least, None)


def add_ended(net, field):
    mask = mask_of(field.signs)
    end = (mask_of(field.sign), add_done(net))
    if field.most is None:
        state = net.add_state([(mask, len(net.moves)), end], None)
    else:
        state = net.add_state([end], None)
        for _ in range(field.most - field.least):
            state = net.add_state([(mask, state), end], None)
    return net.add_chain(mask, state, field.least, None)


def add_texts(net, texts):
    """Adds the state in which one of these texts follows; they are different, and in the order of strings."""
    if len(texts) == 1:
        return add_text(net, texts[0])
    known = net.known[net.place]
    if texts not in known:
        ways = []
        first = 0 if texts[0] != "" else 1
        while first < len(texts):
            sign = texts[first][0]
            last = first + 1
            while last < len(texts) and texts[last][0] == sign:
                last += 1
            ways.append((mask_of(sign), add_texts(net, tuple([text[1:] for text in texts[first:last]]))))
            first = last
        known[texts] = net.add_state(ways, net.goal if texts[0] == "" else None)
    return known[texts]


def add_text(net, text):
    """Adds the states in which a text follows alone, or what is left of it."""
    known = net.known[net.place]
    if text not in known:
        if "" not in known:
            known[""] = add_done(net)
        state = known[""]
        for at in reversed(range(len(text))):
            rest = text[at:]
            if rest not in known:
                known[rest] = net.add_sign(text[at], state)
            state = known[rest]
    return known[text]
