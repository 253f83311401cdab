"""Programs: tuples of deeds, how these are numbered, where each leads, and the words of their texts."""

from judgeslip.errors import NoProgram
from judgeslip.things import Thing

MANY_NAMES = 10
MOST_DEEDS = 4000
MOST_FLOORS = 8
LETTERS = "abcdefghij"
# What stands in a deed behind its kind: n for a name, t for a thing, r for a
# row of deeds. The kinds stand in the order of their numbers in codes.
FORMS = {"told": "nt", "first": "nn", "second": "nn", "pair": "nnn", "same": "nnn", "while": "nr", "if": "nrr"}


class Program:
    """A tuple of deeds; never changed once it is made."""

    def __init__(self, deeds):
        if not isinstance(deeds, tuple):
            raise NoProgram(0)
        ends = []
        look_through(deeds, 0, ends)
        plan = []
        lay_out(deeds, len(ends), ends, plan)
        self.deeds = deeds
        # Of each point its deed, and the points to which that one leads.
        self.plan = tuple(plan)

    def used(self):
        """The names that stand in it, rising."""
        found = set()
        for deed, ways in self.plan:
            for name in names_in(deed):
                found.add(name)
        return tuple(sorted(found))

    def __len__(self):
        return len(self.plan)

    def __eq__(self, other):
        return isinstance(other, Program) and self.deeds == other.deeds

    def __str__(self):
        return " ".join(row_words(self.deeds))

    def __repr__(self):
        return f"Program {str(self)}"


def is_name(part):
    """Whether this is one of the ten names."""
    return isinstance(part, int) and not isinstance(part, bool) and 0 <= part < MANY_NAMES


def fits(part, sign):
    """Whether this is what the sign of a form asks for."""
    if sign == "n":
        return is_name(part)
    if sign == "t":
        return isinstance(part, Thing)
    return isinstance(part, tuple)


def has_form(deed):
    """Whether this has the form of a deed; what stands in its rows isn't looked at."""
    if not isinstance(deed, tuple) or len(deed) == 0:
        return False
    kind = deed[0]
    if not isinstance(kind, str) or kind not in FORMS:
        return False
    form = FORMS[kind]
    return len(deed) == 1 + len(form) and all([fits(part, sign) for part, sign in zip(deed[1:], form)])


def names_in(deed):
    """The names in a deed itself, in order."""
    return deed[1:1 + FORMS[deed[0]].count("n")]


def rows_in(deed):
    """The rows in a deed itself, in order."""
    return deed[2:] if "r" in FORMS[deed[0]] else ()


def look_through(row, floors, ends):
    """Refuses the first in a row that is no deed; ends has, of each deed, the number of what is read behind it.

    The floors are how many whiles and ifs the row stands in.
    """
    for deed in row:
        place = len(ends)
        if place == MOST_DEEDS or not has_form(deed):
            raise NoProgram(place)
        inner = rows_in(deed)
        if inner and floors == MOST_FLOORS:
            raise NoProgram(place)
        ends.append(place + 1)
        for part in inner:
            look_through(part, floors + 1, ends)
        ends[place] = len(ends)


def lay_out(row, behind, ends, plan):
    """Puts the deeds of a row into the plan, each with its ways; behind is the point that comes behind the row.

    A look has two ways, that of a pair ahead of that of nil; each other deed has one.
    """
    for at, deed in enumerate(row):
        point = len(plan)
        after = ends[point] if at + 1 < len(row) else behind
        back = point if deed[0] == "while" else after
        plan.append(None)
        ways = []
        for part in rows_in(deed):
            ways.append(len(plan) if part else back)
            lay_out(part, back, ends, plan)
        if deed[0] != "if":
            ways.append(after)
        plan[point] = (deed, tuple(ways))


def row_words(row):
    """The words of a row's text."""
    words = []
    for deed in row:
        if words:
            words.append(";")
        words.extend(deed_words(deed))
    return words


def deed_words(deed):
    """The words of a deed's text."""
    kind = deed[0]
    letters = [LETTERS[name] for name in names_in(deed)]
    if kind == "told":
        return [letters[0], "=", str(deed[2])]
    inner = rows_in(deed)
    if not inner:
        return [letters[0], "=", kind] + letters[1:]
    words = [kind, letters[0]]
    for part in inner:
        words.extend(["["] + row_words(part) + ["]"])
    return words
