"""Cut things and cut stands, straight by the rules, to hold the program's own against."""

from judgeslip.programs import Program
from drawing import how_many, rows_of
from shapes import NIL, ONE, right


def plain_cut(thing, depth):
    """A thing cut at a depth."""
    if depth == 0:
        return None
    return (plain_cut(thing.head(), depth - 1), plain_cut(thing.tail(), depth - 1)) if thing else ()


def places(told, above=""):
    """What stands at each place of a cut thing: None, "nil" or "pair"; the place is the way to it."""
    found = {above: None if told is None else "pair" if told else "nil"}
    for letter, part in zip("ab", told or ()):
        found.update(places(part, above + letter))
    return found


def from_places(found, depth, above=""):
    """The cut thing in which this stands, cut at a depth."""
    if depth == 0 or found[above] is None:
        return None
    if found[above] == "nil":
        return ()
    return (from_places(found, depth - 1, above + "a"), from_places(found, depth - 1, above + "b"))


def shut(told, depth):
    """A cut thing cut at a depth that may be less."""
    return from_places(places(told), depth)


def same_answers(one, other):
    """What a same deed may tell of two cut things, "yes" and "nil"."""
    left, right = places(one), places(other)
    if left == right and None not in left.values():
        return ["yes"]
    for place in left:
        ways = [place[:at] for at in range(len(place) + 1)]
        if all(found.get(way) is not None for found in (left, right) for way in ways) and left[place] != right[place]:
            return ["nil"]
    return ["yes", "nil"]


def find(row, point, behind, first=0):
    """The deed at a point, the point behind it, and that of its first row and of its other one, if it has such."""
    for at, deed in enumerate(row):
        size = how_many((deed,))
        after = first + size if at + 1 < len(row) else behind
        back = first if deed[0] == "while" else after
        inner = first + 1
        begins = []
        for part in rows_of(deed):
            begins.append(inner if part else back)
            if inner <= point < inner + how_many(part):
                return find(part, point, back, inner)
            inner += how_many(part)
        if first == point:
            return deed, after, begins
        first += size
    raise LookupError(point)


def plain_steps(program, stand, depth):
    """The cut stands to which the steps from one lead."""
    point, cuts = stand
    if point == how_many(program.deeds):
        return []
    deed, after, begins = find(program.deeds, point, how_many(program.deeds))
    told = cuts[deed[1]]
    if deed[0] in ("while", "if"):
        nil_way = after if deed[0] == "while" else begins[1]
        ways = {None: [begins[0], nil_way], (): [nil_way]}.get(told, [begins[0]])
        found = [(way, cuts) for way in ways]
    else:
        found = []
        for made in plain_makings(deed, cuts, depth):
            names = list(cuts)
            names[deed[1]] = made
            found.append((after, tuple(names)))
    return [told for at, told in enumerate(found) if told not in found[:at]]


def plain_makings(deed, cuts, depth):
    if deed[0] == "told":
        return [plain_cut(deed[2], depth)]
    one = cuts[deed[2]]
    if deed[0] in ("first", "second"):
        return [shut(one[deed[0] == "second"], depth) if one else one]
    other = cuts[deed[3]]
    if deed[0] == "pair":
        return [shut((one, other), depth)]
    return [shut({"yes": ((), ()), "nil": ()}[answer], depth) for answer in same_answers(one, other)]


def plain_closed(program, thing, depth, most):
    """The closed set, or None."""
    found = [(0, (plain_cut(thing, depth),) + (plain_cut(NIL, depth),) * 9)]
    for stand in found:
        for told in plain_steps(program, stand, depth):
            if told not in found:
                found.append(told)
        if len(found) > most:
            return None
    return None if any(point == how_many(program.deeds) for point, _ in found) else found


def covers(told, thing, depth):
    """Whether a cut thing tells nothing of the thing that isn't so."""
    if told is None:
        return True
    if depth == 0 or (told == ()) != (len(thing) == 0):
        return False
    return told == () or (covers(told[0], thing.head(), depth - 1) and covers(told[1], thing.tail(), depth - 1))


def draw_cut(chance, depth):
    """Some cut thing, at most so deep."""
    kind = chance.choice(["None", "nil", "pair", "pair"]) if depth else "None"
    if kind == "pair":
        return (draw_cut(chance, depth - 1), draw_cut(chance, depth - 1))
    return None if kind == "None" else ()


def every_cut(depth):
    """Every cut thing that is at most so deep."""
    if depth == 0:
        return [None]
    parts = every_cut(depth - 1)
    return [None, ()] + [(one, other) for one in parts for other in parts]


def needs_depth(depth):
    """A program that grows for ever, as only cut stands at this depth or a deeper one tell.

    It ends where name 1, a told thing's tail so many times, less one, is nil; and it is a pair.
    """
    tails = (("second", 1, 1),) * (depth - 1)
    inner = (("told", 1, right(depth + 2)),) + tails + (("if", 1, (), (("told", 2, NIL),)), ("pair", 3, 3, 2))
    return Program((("told", 2, ONE), ("while", 2, inner)))
