"""Things by numbers: those that are built alike have the same one. And runs over such, with a mark among them."""

from judgeslip.errors import TooGreat
from judgeslip.programs import MANY_NAMES
from judgeslip.things import MOST_PAIRS

NIL = 0
# Stands for an input of which nothing is known.
MARK = 1


class Shelf:
    """What the numbers stand for; pairs are put on it as they are made."""

    def __init__(self):
        # Of each number those of its head and its tail, how many pairs it has, and whether the mark is in it.
        self.heads = [NIL, MARK]
        self.tails = [NIL, MARK]
        self.sizes = [0, 0]
        self.marked = [False, True]
        # Of the numbers of two the number of their pair.
        self.paired = {}


class Walk:
    """A run over the things of a shelf: where it stands now."""

    def __init__(self, program, shelf, first):
        self.plan = program.plan
        self.shelf = shelf
        # Of the points of told deeds the numbers of their things, once they are done.
        self.tellings = {}
        self.point = 0
        self.names = [first] + [NIL] * (MANY_NAMES - 1)


def pair_number(shelf, one, other):
    """The number of the pair of two."""
    key = (one, other)
    if key not in shelf.paired:
        size = 1 + shelf.sizes[one] + shelf.sizes[other]
        if size > MOST_PAIRS:
            raise TooGreat(MOST_PAIRS)
        shelf.paired[key] = len(shelf.heads)
        shelf.heads.append(one)
        shelf.tails.append(other)
        shelf.sizes.append(size)
        shelf.marked.append(shelf.marked[one] or shelf.marked[other])
    return shelf.paired[key]


def thing_number(shelf, thing):
    """The number of a thing; a list of what is left to do, since things may be 4,000 deep."""
    made = []
    waiting = [thing]
    while waiting:
        part = waiting.pop()
        if part is None:
            # Both parts of this pair are made, the second one last.
            second = made.pop()
            made.append(pair_number(shelf, made.pop(), second))
        elif part.size == 0:
            made.append(NIL)
        else:
            waiting.extend([None, part.second, part.first])
    return made[0]


def go_on(walk):
    """Does a step, which must not be asked for at the end; where a pair is too great nothing is done."""
    deed, ways = walk.plan[walk.point]
    name = deed[1]
    if len(ways) == 2:
        walk.point = ways[0] if walk.shelf.sizes[walk.names[name]] else ways[1]
    else:
        walk.names[name] = number_made(walk, deed)
        walk.point = ways[0]


def number_made(walk, deed):
    """The number of what the first name of a deed that is no look comes to stand for."""
    kind = deed[0]
    if kind == "told":
        if walk.point not in walk.tellings:
            walk.tellings[walk.point] = thing_number(walk.shelf, deed[2])
        return walk.tellings[walk.point]
    one = walk.names[deed[2]]
    if kind == "first":
        return walk.shelf.heads[one]
    if kind == "second":
        return walk.shelf.tails[one]
    other = walk.names[deed[3]]
    if kind == "pair":
        return pair_number(walk.shelf, one, other)
    return pair_number(walk.shelf, NIL, NIL) if one == other else NIL


def hangs_on_mark(walk):
    """Whether what the next step does may be one thing or another, by what the mark stands for."""
    deed = walk.plan[walk.point][0]
    kind = deed[0]
    if kind in ("while", "if"):
        return walk.names[deed[1]] == MARK
    if kind in ("first", "second"):
        return walk.names[deed[2]] == MARK
    if kind != "same":
        return False
    one, other = walk.names[deed[2]], walk.names[deed[3]]
    return one != other and (walk.shelf.marked[one] or walk.shelf.marked[other])
