"""Programs told anew with one loop and three names.

At each look of the loop name 1 stands for the pair of the number of the point and the row of what the ten names of the
program stand for, and name 0 for a pair, for nil at the end. Within the loop the names 0 and 2 are free to work with.
"""

from judgeslip.errors import TooGreat
from judgeslip.programs import MANY_NAMES, Program
from judgeslip.things import Thing, number

MOST_TOLD_ANEW = 30


def small(program):
    """A program that tells what this one tells, with one while and the names 0 to 2."""
    end = len(program)
    if end > MOST_TOLD_ANEW:
        raise TooGreat(MOST_TOLD_ANEW)
    # The row of nine nils is the number 9.
    begin = (("told", 2, number(MANY_NAMES - 1)), ("pair", 0, 0, 2)) + go_to(0, end)
    inner = (("first", 2, 1),) + choose(program, 0, end) if end else ()
    return Program(begin + (("while", 0, inner), ("second", 0, 1), ("first", 0, 0)))


def go_to(point, end):
    """Makes name 1 the pair of the point's number and the row in name 0, which stays a pair but for the end."""
    over = (("told", 0, Thing()),) if point == end else ()
    return (("told", 2, number(point)), ("pair", 1, 2, 0)) + over


def choose(program, low, high):
    """Does the deed of the point, which is one from low on, below high; name 2 is its number less low."""
    if high - low == 1:
        return deed_done(program, low)
    half = (high - low) // 2
    above, below = choose(program, low + half, high), choose(program, low, low + half)
    if half == 1:
        return (("if", 2, (("second", 2, 2),) + above, below),)
    # Name 2 stays as it was for those below.
    tails = (("second", 0, 2),) + (("second", 0, 0),) * (half - 2)
    return tails + (("if", 0, (("second", 2, 0),) + above, below),)


def deed_done(program, point):
    """Does the deed at the point, and goes on to the point behind it."""
    deed, ways = program.plan[point]
    end = len(program)
    if len(ways) == 2:
        row_and_look = (("second", 0, 1),) + fetch(2, deed[1])
        return row_and_look + (("if", 2, go_to(ways[0], end), go_to(ways[1], end)),)
    return make(deed) + store(deed[1]) + go_to(ways[0], end)


def fetch(into, name):
    """Makes the name `into` stand for what the program's name stands for."""
    return (("second", into, 1),) + (("second", into, into),) * name + (("first", into, into),)


def make(deed):
    """Makes name 0 stand for what the deed makes."""
    kind = deed[0]
    if kind == "told":
        return (("told", 0, deed[2]),)
    if kind in ("first", "second"):
        return fetch(0, deed[2]) + ((kind, 0, 0),)
    return fetch(0, deed[2]) + fetch(2, deed[3]) + ((kind, 0, 0, 2),)


def store(name):
    """Makes name 0 stand for the row in which the program's name stands for what name 0 stood for."""
    behind = (("second", 2, 1),) + (("second", 2, 2),) * (name + 1)
    deeds = behind + (("pair", 0, 0, 2),)
    for ahead in reversed(range(name)):
        deeds += fetch(2, ahead) + (("pair", 0, 2, 0),)
    return deeds
