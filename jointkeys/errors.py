"""The errors of the package, each with its answer for a desk."""


class JointError(ValueError):
    """The base of all errors of the package."""

    def told(self):
        return "refused jointerror"


class BadField(JointError):
    """A field was asked for with a parameter that is not as told."""

    def __init__(self, what):
        self.what = what

    def told(self):
        return "refused badfield"


class NoValue(JointError):
    """Something is no value of a field."""

    def __init__(self, value):
        self.value = value

    def told(self):
        return "refused novalue"


class NoText(JointError):
    """Something is no text, or no text of a value."""

    def __init__(self, text):
        self.text = text

    def told(self):
        return "refused notext"


class BadLayout(JointError):
    """A layout was asked for with a parameter that is not as told."""

    def __init__(self, what):
        self.what = what

    def told(self):
        return "refused badlayout"


class NoRow(JointError):
    """Something is no row of a layout, seen at this place."""

    def __init__(self, place):
        self.place = place

    def told(self):
        return "refused norow"


class Large(JointError):
    """There are too many rows to return them all."""

    def __init__(self, count):
        self.count = count

    def told(self):
        return "refused large"


class NoJoint(JointError):
    """Something is the number of no joint."""

    def __init__(self, k):
        self.k = k

    def told(self):
        return "refused nojoint"


class NotWhole(JointError):
    """The field with this index is not whole."""

    def __init__(self, index):
        self.index = index

    def told(self):
        return "refused notwhole"


class Hopeless(JointError):
    """The field with this index is crossed alone, so no separator helps."""

    def __init__(self, index):
        self.index = index

    def told(self):
        return "refused hopeless"


class NoPlace(JointError):
    """Something is the place of no row."""

    def __init__(self, place):
        self.place = place

    def told(self):
        return "refused noplace"


class Unbounded(JointError):
    """The field with this index has no greatest length or number."""

    def __init__(self, index):
        self.index = index

    def told(self):
        return "refused unbounded"


class Clash(JointError):
    """Two kept rows have the same text in another layout."""

    def __init__(self, one, other):
        self.one = one
        self.other = other

    def told(self):
        return "refused clash"


class BadText(JointError):
    """The word at this place of a layout's text cannot stand there."""

    def __init__(self, place):
        self.place = place

    def told(self):
        return "refused badtext"
