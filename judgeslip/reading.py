"""Reading the texts of things."""

from judgeslip.errors import NoText
from judgeslip.things import MOST_PAIRS, Thing


def read_thing(text):
    """The thing that has this text."""
    # What was read at each level: lowest the whole thing, above it the pairs
    # that are begun; a list, since they may be 4,000 deep.
    levels = [[]]
    begun = 0
    for place, sign in enumerate(text):
        if sign not in signs_due(levels, begun):
            raise NoText(place)
        if sign == "(":
            begun += 1
            levels.append([])
        elif sign == ")":
            first, second = levels.pop()
            levels[-1].append(Thing(first, second))
        else:
            levels[-1].append(Thing())
    if not is_whole(levels):
        raise NoText(len(text))
    return levels[0][0]


def is_whole(levels):
    """Whether what was read is a whole thing."""
    return len(levels) == 1 and len(levels[0]) == 1


def signs_due(levels, begun):
    """The signs with which some thing's text goes on."""
    if is_whole(levels):
        return ""
    if len(levels[-1]) == 2:
        return ")"
    if begun == MOST_PAIRS:
        return "."
    return ".("
