"""Things: nil and pairs of things, and the numbers and rows that they tell."""

from judgeslip.errors import TooGreat

MOST_PAIRS = 4000


class Thing:
    """Nil, or a pair of two things; never changed once it is made."""

    def __init__(self, first=None, second=None):
        size = pairs_in(first, second)
        if size > MOST_PAIRS:
            raise TooGreat(MOST_PAIRS)
        self.first = first
        self.second = second
        self.size = size

    def head(self):
        """The first of a pair; nil of nil."""
        return self.first if self.size else self

    def tail(self):
        """The second of a pair; nil of nil."""
        return self.second if self.size else self

    def __len__(self):
        return len(range(self.size))

    def __eq__(self, other):
        return isinstance(other, Thing) and alike(self, other)

    def __str__(self):
        return "".join(signs(self))

    def __repr__(self):
        return f"Thing {str(self)}"


def pairs_in(first, second):
    """How many pairs stand in the thing that is made of these two."""
    if first is None and second is None:
        return 0
    return 1 + first.size + second.size


# The walks below keep lists of what is left to do: calls within calls would
# go as deep as a thing does, and that may be 4,000.


def alike(one, other):
    """Whether two things are built alike."""
    waiting = [(one, other)]
    while waiting:
        left, right = waiting.pop()
        if left.size != right.size:
            return False
        # Only one thing has no pairs, and only one has a single pair.
        if left.size > 1:
            waiting.append((left.second, right.second))
            waiting.append((left.first, right.first))
    return True


def signs(thing):
    """The signs of a thing's text, in order; a None that waits is a bracket to shut."""
    found = []
    waiting = [thing]
    while waiting:
        part = waiting.pop()
        if part is None:
            found.append(")")
        elif part.size == 0:
            found.append(".")
        else:
            found.append("(")
            waiting.extend([None, part.second, part.first])
    return found


def yes():
    """The thing that says yes."""
    return Thing(Thing(), Thing())


def number(n):
    """The thing of a number."""
    told = Thing()
    for step in range(n):
        told = Thing(Thing(), told)
    return told


def counted(thing):
    """The number of a thing; None where it is the thing of none."""
    many = 0
    rest = thing
    while rest.size:
        if rest.first.size:
            return None
        many += 1
        rest = rest.second
    return many


def row(things):
    """The thing of a row."""
    told = Thing()
    for part in reversed(things):
        told = Thing(part, told)
    return told


def parts(thing):
    """The things in a thing's row, a new list."""
    found = []
    rest = thing
    while rest.size:
        found.append(rest.first)
        rest = rest.second
    return found
