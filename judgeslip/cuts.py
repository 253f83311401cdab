"""Things and stands cut at a depth, the steps between cut stands, and closed sets of these."""

from judgeslip.runs import first_names

# Yes, as deep as it goes; where that is deeper than the depth it is cut, too.
YES = ((), ())


def cut(thing, depth):
    """The thing cut at a depth: None for anything, () for nil, a tuple of two for a pair."""
    if depth <= 0:
        return None
    if thing.size == 0:
        return ()
    return (cut(thing.first, depth - 1), cut(thing.second, depth - 1))


def cut_again(told, depth):
    """A cut thing, cut at a depth."""
    if depth <= 0 or told is None:
        return None
    if told == ():
        return ()
    return (cut_again(told[0], depth - 1), cut_again(told[1], depth - 1))


def cut_begin(thing, depth):
    """The cut stand with which a run on this thing begins."""
    return (0, tuple([cut(part, depth) for part in first_names(thing)]))


def cut_steps(program, stand, depth):
    """All cut stands to which the steps from one lead, a new list of unlike ones."""
    point, cuts = stand
    if point == len(program):
        return []
    deed, ways = program.plan[point]
    name = deed[1]
    if len(ways) == 2:
        found = [(way, cuts) for way in ways_taken(cuts[name], ways)]
    else:
        made = [cut_again(told, depth) for told in cuts_made(deed, cuts, depth)]
        found = [(ways[0], cuts[:name] + (told,) + cuts[name + 1:]) for told in made]
    # An if with two empty rows goes on at the same point by both ways.
    if len(found) == 2 and found[0] == found[1]:
        return found[:1]
    return found


def ways_taken(told, ways):
    """The ways that a look at a cut thing takes, a pair's ahead of nil's."""
    if told is None:
        return list(ways)
    return [ways[1]] if told == () else [ways[0]]


def cuts_made(deed, cuts, depth):
    """What the first name of a deed that is no look may come to stand for."""
    kind = deed[0]
    if kind == "told":
        return [cut(deed[2], depth)]
    one = cuts[deed[2]]
    if kind == "first":
        return [one[0] if one else one]
    if kind == "second":
        return [one[1] if one else one]
    other = cuts[deed[3]]
    if kind == "pair":
        return [(one, other)]
    alike = surely_same(one, other)
    if alike is None:
        return [YES, ()]
    return [YES] if alike else [()]


def surely_same(one, other):
    """Whether what two cut things were cut of is the same; None where they don't tell."""
    if one is None or other is None:
        return None
    if one == () or other == ():
        return one == other
    both = [surely_same(one[0], other[0]), surely_same(one[1], other[1])]
    if False in both:
        return False
    return None if None in both else True


def closed(program, thing, depth, most=300):
    """The cut stands that come of the beginning's; None where the end is among them, or they are too many."""
    first = cut_begin(thing, depth)
    found = [first]
    seen = {first: True}
    done = 0
    while done < len(found):
        if len(found) > most or found[done][0] == len(program):
            return None
        for stand in cut_steps(program, found[done], depth):
            if stand not in seen:
                seen[stand] = True
                found.append(stand)
        done += 1
    return found
