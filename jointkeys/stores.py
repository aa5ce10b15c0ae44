"""Stores: numbers that are kept under the texts of rows."""

from jointkeys.errors import Clash, NoRow
from jointkeys.layouts import check_row, is_sequence, joints_behind, row_text
from jointkeys.ordered import first_from


def head_of(layout, values):
    """The text that begins the texts of all rows with these values of the first fields."""
    if not is_sequence(values):
        raise NoRow(-1)
    for place, value in enumerate(values):
        if place >= len(layout.fields) or not layout.fields[place].has_value(value):
            raise NoRow(place)
    return "".join([field.text_for(value) + joint
                    for field, value, joint in zip(layout.fields, values, joints_behind(layout))])


class Store:
    """Numbers under the texts of the rows of a layout."""

    def __init__(self, layout):
        self.layout = layout
        # The texts in their order, and under each the row that was put last and its number.
        self.texts = []
        self.kept = {}

    def put(self, row, number):
        """Keeps a number under the text of a row, in place of what is there."""
        text = row_text(self.layout, row)
        if text not in self.kept:
            self.texts.insert(first_from(self.texts, text), text)
        self.kept[text] = (tuple(row), number)

    def take(self, row):
        """Takes away what is under the text of a row; returns whether there was something."""
        text = row_text(self.layout, row)
        if text not in self.kept:
            return False
        del self.kept[text]
        del self.texts[first_from(self.texts, text)]
        return True

    def get(self, row):
        """The number under the text of a row, or None."""
        text = row_text(self.layout, row)
        return self.kept[text][1] if text in self.kept else None

    def scan(self, values):
        """The pairs of rows and numbers whose texts begin with the head of these values, in the order of texts."""
        head = head_of(self.layout, values)
        found = []
        at = first_from(self.texts, head)
        while at < len(self.texts) and self.texts[at].startswith(head):
            found.append(self.kept[self.texts[at]])
            at += 1
        return found

    def size(self):
        """How many numbers are kept."""
        return len(self.texts)

    def moved(self, layout):
        """A new store with another layout that keeps the same rows and numbers."""
        pairs = [self.kept[text] for text in self.texts]
        for row, _ in pairs:
            check_row(layout, row)
        rows = {}
        store = Store(layout)
        for row, number in pairs:
            text = row_text(layout, row)
            if text in rows:
                raise Clash(rows[text], row)
            rows[text] = row
            store.put(row, number)
        return store
