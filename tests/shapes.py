"""Things of told shapes that several tests build."""

from judgeslip.things import Thing

NIL = Thing()
ONE = Thing(NIL, NIL)


def right(depth, thing=NIL):
    """The thing, with nil paired ahead of it so many times."""
    for _ in range(depth):
        thing = Thing(NIL, thing)
    return thing


def left(depth, thing=NIL):
    """The thing, with nil paired behind it so many times."""
    for _ in range(depth):
        thing = Thing(thing, NIL)
    return thing


def zigzag(depth):
    """A thing that is so deep, to the left and to the right by turns."""
    thing = NIL
    for at in range(depth):
        thing = Thing(thing, NIL) if at % 2 else Thing(NIL, thing)
    return thing


def full(depth):
    """The thing in which all pairs stand down to this depth; each level is one thing twice."""
    thing = NIL
    for _ in range(depth):
        thing = Thing(thing, thing)
    return thing


def all_things(size):
    """Every thing of so many pairs."""
    if size == 0:
        return [Thing()]
    found = []
    for ahead in range(size):
        for first in all_things(ahead):
            for second in all_things(size - 1 - ahead):
                found.append(Thing(first, second))
    return found


def small_things(most):
    """Every thing of at most so many pairs, all of them unlike."""
    return [thing for size in range(most + 1) for thing in all_things(size)]


def text_by_calls(thing):
    """A small thing's text, told straight by its rule."""
    if not thing:
        return "."
    return "(" + text_by_calls(thing.head()) + text_by_calls(thing.tail()) + ")"
