"""Runs without an end: those that come again, and those that a closed set holds."""

from judgeslip.cuts import closed
from judgeslip.errors import TooGreat
from judgeslip.numbered import Shelf, Walk, go_on, thing_number

DEPTHS = (1, 2, 3)
MOST_STANDS = 300


def again(program, thing, budget=2000):
    """The first two stands of a run that are the same: the steps ahead of each; None where there are none."""
    word, early, late = how_it_goes(program, thing, budget)
    return (early, late) if word == "again" else None


def endless(program, thing, budget=2000):
    """A paper that a run is endless; None where none is found."""
    word, early, late = how_it_goes(program, thing, budget)
    if word == "again":
        return ("again", program, thing, early, late)
    if word == "ended":
        return None
    for depth in DEPTHS:
        found = closed(program, thing, depth, MOST_STANDS)
        if found is not None:
            return ("closed", program, thing, depth, found)
    return None


def how_it_goes(program, thing, budget):
    """How a run goes within the budget: "again" with early and late; else "ended", "great" or "open", and its steps."""
    shelf = Shelf()
    walk = Walk(program, shelf, thing_number(shelf, thing))
    seen = {}
    for steps in range(budget + 1):
        stand = (walk.point, *walk.names)
        if stand in seen:
            return "again", seen[stand], steps
        seen[stand] = steps
        if walk.point == len(program):
            return "ended", 0, steps
        if steps < budget:
            try:
                go_on(walk)
            except TooGreat:
                return "great", 0, steps
    return "open", 0, budget
