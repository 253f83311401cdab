"""Runs of programs: their stands, step by step, and what comes of them."""

from judgeslip.errors import NoStep, TooGreat
from judgeslip.programs import MANY_NAMES
from judgeslip.things import Thing, yes


class Stand:
    """A point, and what the ten names stand for; never changed once it is made."""

    def __init__(self, point, names):
        self.point = point
        self.names = names

    def __eq__(self, other):
        return isinstance(other, Stand) and self.point == other.point and self.names == other.names


class Run:
    """How a run went: its word, its steps and, where it ended, the thing that was told; never changed."""

    def __init__(self, word, steps, thing=None):
        self.word = word
        self.steps = steps
        self.thing = thing

    def __len__(self):
        return len(range(self.steps))

    def __eq__(self, other):
        if not isinstance(other, Run):
            return False
        return self.word == other.word and self.steps == other.steps and self.thing == other.thing

    def __str__(self):
        if self.word == "ended":
            return f"ended {self.steps} {self.thing}"
        return f"{self.word} {self.steps}"

    def __repr__(self):
        return f"Run {str(self)}"


def begin(program, thing):
    """The stand with which a run begins; the program's first deed is always at point 0."""
    return Stand(0, first_names(thing))


def first_names(thing):
    """What the ten names stand for when a run on this thing begins."""
    return (thing,) + (Thing(),) * (MANY_NAMES - 1)


def step(program, stand):
    """The stand a step later."""
    if stand.point == len(program):
        raise NoStep(stand.point)
    names = list(stand.names)
    point = do_deed(program, stand.point, names)
    return Stand(point, tuple(names))


def do_deed(program, point, names):
    """Does the deed at the point with this list of what the names stand for; tells the point behind it.

    Where a pair is too great the list stays as it was.
    """
    deed, ways = program.plan[point]
    if len(ways) == 2:
        return ways[0] if names[deed[1]].size else ways[1]
    names[deed[1]] = thing_made(deed, names)
    return ways[0]


def thing_made(deed, names):
    """What the first name of a deed that is no look comes to stand for."""
    kind = deed[0]
    if kind == "told":
        return deed[2]
    one = names[deed[2]]
    if kind == "first":
        return one.head()
    if kind == "second":
        return one.tail()
    other = names[deed[3]]
    if kind == "pair":
        return Thing(one, other)
    return yes() if one == other else Thing()


def stands(program, thing, many=100):
    """The stands of a run from the beginning on, at most so many, a new list."""
    found = [begin(program, thing)]
    while len(found) < many:
        try:
            found.append(step(program, found[-1]))
        except (NoStep, TooGreat):
            break
    return found


def run(program, thing, budget=2000):
    """How a run goes within so many steps."""
    end = len(program)
    names = list(first_names(thing))
    point = 0
    steps = 0
    while point != end:
        if steps == budget:
            return Run("open", steps)
        try:
            point = do_deed(program, point, names)
        except TooGreat:
            return Run("great", steps)
        steps += 1
    return Run("ended", steps, names[0])


def saying(judge, thing, budget):
    """Whether a judge says yes of a thing, by telling a pair, or no, by nil; None where it says nothing by then."""
    said = run(judge, thing, budget)
    return said.thing.size > 0 if said.word == "ended" else None
