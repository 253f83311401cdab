"""The refusals: each has a class of its own, and each class has one value."""


class NoText(ValueError):
    """A text that writes nothing of the kind that is due; it breaks at the place."""

    def __init__(self, place):
        ValueError.__init__(self, f"the text breaks at {place}")
        self.place = place


class NoProgram(ValueError):
    """What is no program; the place is the number of the first deed that is none."""

    def __init__(self, place):
        ValueError.__init__(self, f"no program: deed {place} is none")
        self.place = place


class NoStep(LookupError):
    """A step that was asked for at the end, which is the point."""

    def __init__(self, point):
        LookupError.__init__(self, f"no step leads on from point {point}")
        self.point = point


class TooGreat(OverflowError):
    """What would go beyond the bound."""

    def __init__(self, bound):
        OverflowError.__init__(self, f"greater than {bound}")
        self.bound = bound


class NoRoom(ValueError):
    """A program that leaves too little room to build with; what tells of which kind."""

    def __init__(self, what):
        ValueError.__init__(self, f"no room: {what}")
        self.what = what


class NoName(KeyError):
    """A name by which nothing stands that is of the kind due."""

    def __init__(self, name):
        KeyError.__init__(self, f"nothing that is due stands by {name}")
        self.name = name


class NoSaying(ValueError):
    """What a desk was told and can't take; the row is what was told."""

    def __init__(self, row):
        # The row may be anything, even what has no short text, so it isn't shown.
        ValueError.__init__(self, "no row of words that a desk takes")
        self.row = row
