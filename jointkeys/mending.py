"""Mending fields: what is broken in them for a wish, and the fewest separators that grant it."""

from jointkeys.errors import Hopeless, NoJoint, NotWhole
from jointkeys.keeping import Pair, alike_rows, as_tuples, strangers, unsorted_rows
from jointkeys.kinds import is_whole
from jointkeys.layouts import Layout, bare_layout, check_fields, is_ahead, is_row, row_text
from jointkeys.nets import Net
from jointkeys.numerals import is_number
from jointkeys.signs import LOW
from jointkeys.unlike import crossed_texts
from jointkeys.walks import Walk


class Wish:
    """That fields are read back, perhaps sorted, and scanned at some joints."""

    def __init__(self, order, scans):
        self.order = order
        self.scans = as_tuples(scans)

    def __eq__(self, other):
        return type(self) is type(other) and self.order == other.order and self.scans == other.scans


class Stretch:
    """Some fields, one behind the other, with two rows of them that show that they are broken."""

    def __init__(self, kind, first, last, pair):
        self.kind = kind
        self.first = first
        self.last = last
        self.pair = as_tuples(pair)

    def __eq__(self, other):
        return (type(self) is type(other) and self.kind == other.kind and self.first == other.first
                and self.last == other.last and self.pair == other.pair)


class Mend:
    """The joints whose separators grant a wish, and stretches that show that it takes as many."""

    def __init__(self, joints, stretches):
        self.joints = as_tuples(joints)
        self.stretches = as_tuples(stretches)

    def __eq__(self, other):
        return type(self) is type(other) and self.joints == other.joints and self.stretches == other.stretches


def is_joint_of(fields, thing):
    return is_number(thing) and 0 <= thing < len(fields) - 1


def check_wish(fields, wish):
    check_fields(fields)
    for k in wish.scans:
        if not is_joint_of(fields, k):
            raise NoJoint(k)


def last_joint(stretch):
    """The last joint of a stretch; it is before the first field if the stretch has none."""
    return stretch.last if stretch.kind == "open" else stretch.last - 1


def broken_stretches(fields, wish):
    """The least broken stretches of fields, ordered by their first fields."""
    check_wish(fields, wish)
    net = Net(bare_layout(fields))
    found = []
    limit = len(fields) - 1
    for index in reversed(range(len(fields))):
        # Whatever has all the joints of a stretch that was found is not a least one.
        stretch = first_broken(net, wish, index, limit)
        if stretch is not None:
            found.append(stretch)
            limit = last_joint(stretch)
        texts = crossed_texts(fields[index]) if wish.order is True else None
        if texts is not None:
            found.append(Stretch("crossed", index, index, pair_with(net, index, index, texts)))
    found.reverse()
    return found


def first_broken(net, wish, index, limit):
    """The broken stretch of a first field whose last joint is the least one and below a limit, or None."""
    walk = Walk(net, index)
    texts = crossed_texts(net.layout.fields[index]) if wish.order is True else None
    for joint in range(index, limit):
        rows = walk.rows_open() if joint in wish.scans else None
        walk.read_next()
        if walk.alike is not None:
            one, other = walk.rows_alike()
            return Stretch("alike", index, joint + 1, Pair(one, other))
        if texts is not None:
            return Stretch("crossed", index, joint + 1, pair_with(net, index, joint + 1, texts))
        if walk.crossed is not None and wish.order is True:
            one, other = walk.rows_crossed()
            return Stretch("crossed", index, joint + 1, Pair(one, other))
        if rows is not None:
            return Stretch("open", index, joint, Pair(rows[0], rows[1]))
    return None


def pair_with(net, first, last, texts):
    """The rows of some fields whose first values have these texts, and the others shortest ones."""
    tail = " " + net.tail(net.behind[first], net.behind[last])
    return Pair(net.row_of(first, texts[0] + tail), net.row_of(first, texts[1] + tail))


def mended(fields, wish):
    """The fewest joints that grant a wish, with stretches of which each needs one of them."""
    check_wish(fields, wish)
    if wish.order is True:
        check_order(fields)
    joints = []
    stretches = []
    for stretch in broken_stretches(fields, wish):
        if len(joints) == 0 or joints[-1] < stretch.first:
            joints.append(last_joint(stretch))
            stretches.append(stretch)
    return Mend(joints, stretches)


def check_order(fields):
    """Refuses fields whose order cannot be mended, or not in this way."""
    for index, field in enumerate(fields):
        if not is_whole(field):
            raise NotWhole(index)
    for index, field in enumerate(fields):
        if crossed_texts(field) is not None:
            raise Hopeless(index)


def is_mend(fields, wish, thing):
    """Whether something is a mend whose joints grant a wish, and whose stretches show that no fewer do."""
    check_wish(fields, wish)
    if type(thing) is not Mend or not are_joints(fields, thing.joints):
        return False
    return is_proof(fields, wish, thing) and is_granted(fields, wish, thing.joints)


def are_joints(fields, thing):
    """Whether something has ascending different joints of fields."""
    if not isinstance(thing, tuple) or not all([is_joint_of(fields, k) for k in thing]):
        return False
    return all([thing[at] < thing[at + 1] for at in range(len(thing) - 1)])


def is_proof(fields, wish, mend):
    """Whether a mend has as many broken stretches as joints, no two of them with a joint in common."""
    if not isinstance(mend.stretches, tuple) or len(mend.stretches) != len(mend.joints):
        return False
    if not all([is_broken(fields, wish, thing) for thing in mend.stretches]):
        return False
    joints = [k for stretch in mend.stretches for k in range(stretch.first, last_joint(stretch) + 1)]
    return len(set(joints)) == len(joints)


def is_broken(fields, wish, thing):
    """Whether something is a stretch that is broken for a wish, and its pair shows it."""
    if type(thing) is not Stretch or not is_number(thing.first) or not is_number(thing.last):
        return False
    if not 0 <= thing.first <= thing.last < len(fields) or type(thing.pair) is not Pair:
        return False
    layout = bare_layout(fields[thing.first:thing.last + 1])
    one = thing.pair.one
    other = thing.pair.other
    if not is_row(layout, one) or not is_row(layout, other) or one[0] == other[0]:
        return False
    text = row_text(layout, one)
    other_text = row_text(layout, other)
    if thing.kind == "alike":
        return text == other_text and is_ahead(layout, one, other)
    if thing.kind == "crossed":
        return wish.order is True and are_crossed(text, other_text) and is_ahead(layout, one, other)
    return (thing.kind == "open" and thing.last in wish.scans
            and len(text) < len(other_text) and other_text.startswith(text))


def are_crossed(text, other):
    """Whether two texts differ at a sign which both have, the first of them with the greater one."""
    for sign, other_sign in zip(text, other):
        if sign != other_sign:
            return sign > other_sign
    return False


def is_granted(fields, wish, joints):
    """Whether fields keep all that is wished, with separators at these joints."""
    layout = Layout(fields, [LOW if k in joints else "" for k in range(len(fields) - 1)])
    if alike_rows(layout) is not None or (wish.order is True and unsorted_rows(layout) is not None):
        return False
    return all([strangers(layout, k) is None for k in wish.scans])
