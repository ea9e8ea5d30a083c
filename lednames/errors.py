"""The errors of the package; each one keeps the very things that it is given."""


class LedError(ValueError):
    """The base of all errors of the package."""

    def told(self):
        return "refused lederror"


class NoName(LedError):
    """Something that stands where a name is expected is none."""

    def __init__(self, name):
        self.name = name

    def told(self):
        return "refused noname"


class BadRow(LedError):
    """A parameter of a row, `what`, is not as it has to be."""

    def __init__(self, what):
        self.what = what

    def told(self):
        return "refused badrow"


class BadTable(LedError):
    """Rows make no table for the reason `what`, at the name `name`."""

    def __init__(self, what, name):
        self.what = what
        self.name = name

    def told(self):
        return "refused badtable"


class BadWord(LedError):
    """The pair at this place of a word is none."""

    def __init__(self, place):
        self.place = place

    def told(self):
        return "refused badword"


class NoPlace(LedError):
    """No name stands at this place."""

    def __init__(self, place):
        self.place = place

    def told(self):
        return "refused noplace"


class BadAnswer(LedError):
    """Something that stands where an answer is expected is none."""

    def told(self):
        return "refused badanswer"


class BadLabels(LedError):
    """The label at this place is none, or comes for the second time."""

    def __init__(self, place):
        self.place = place

    def told(self):
        return "refused badlabels"


class NoRow(LedError):
    """A row that a change takes away is not there."""

    def told(self):
        return "refused norow"


class Large(LedError):
    """There would be so many, which is too many."""

    def __init__(self, count):
        self.count = count

    def told(self):
        return "refused large"


class BadText(LedError):
    """The label or row at this place of a text is not of the right form."""

    def __init__(self, place):
        self.place = place

    def told(self):
        return "refused badtext"


class NoBack(LedError):
    """There is nothing to undo."""

    def told(self):
        return "refused noback"
