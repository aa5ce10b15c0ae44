"""Layouts: fields one behind the other, and the separators between them."""

from jointkeys.errors import BadLayout, NoRow
from jointkeys.fields import Ended, Fixed, Listed, Marked, Number, Word
from jointkeys.signs import HIGH, LOW


def is_sequence(thing):
    return isinstance(thing, (list, tuple))


def check_fields(fields):
    if not is_sequence(fields) or len(fields) == 0:
        raise BadLayout("fields")
    if not all([isinstance(field, (Word, Number, Fixed, Listed, Ended, Marked)) for field in fields]):
        raise BadLayout("fields")


def is_joint(thing):
    return isinstance(thing, str) and thing in ("", LOW, HIGH)


class Layout:
    """One or more fields, and for each joint between them no separator or one."""

    def __init__(self, fields, joints):
        check_fields(fields)
        if not is_sequence(joints) or len(joints) != len(fields) - 1:
            raise BadLayout("joints")
        if not all([is_joint(joint) for joint in joints]):
            raise BadLayout("joints")
        self.fields = tuple(fields)
        self.joints = tuple(joints)

    def __eq__(self, other):
        return type(self) is type(other) and self.fields == other.fields and self.joints == other.joints


def bare_layout(fields):
    """The layout of these fields without separators."""
    check_fields(fields)
    return Layout(fields, [""] * (len(fields) - 1))


def joints_behind(layout):
    """What stands behind each field; behind the last one nothing."""
    return layout.joints + ("",)


def check_row(layout, row):
    if not is_sequence(row):
        raise NoRow(-1)
    for place in range(max(len(row), len(layout.fields))):
        if place >= len(row) or place >= len(layout.fields):
            raise NoRow(place)
        if not layout.fields[place].has_value(row[place]):
            raise NoRow(place)


def is_row(layout, thing):
    """Whether something is a row of a layout."""
    return (is_sequence(thing) and len(thing) == len(layout.fields)
            and all([field.has_value(value) for field, value in zip(layout.fields, thing)]))


def row_text(layout, row):
    """The text of a row."""
    check_row(layout, row)
    return "".join([field.text_for(value) + joint
                    for field, value, joint in zip(layout.fields, row, joints_behind(layout))])


def is_ahead(layout, one, other):
    """Whether a row is before another one, by the first field in which they differ."""
    check_row(layout, one)
    check_row(layout, other)
    for field, first, second in zip(layout.fields, one, other):
        if first != second:
            return field.puts_before(first, second)
    return False
