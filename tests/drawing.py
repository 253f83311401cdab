"""Programs and things that are drawn, the same each time, and a plain walk of runs to hold others against."""

import random

from judgeslip.codes import code_of
from judgeslip.errors import NoStep, TooGreat
from judgeslip.programs import Program
from judgeslip.runs import begin, step
from judgeslip.things import Thing
from shapes import NIL, ONE, right

KINDS = ("told", "first", "second", "pair", "same", "while", "if")


def source(seed):
    return random.Random(f"judgeslip {seed}")


def draw_thing(chance, pairs):
    """A thing of just so many pairs."""
    if pairs == 0:
        return Thing()
    ahead = chance.choice([0, pairs - 1, chance.randrange(pairs)])
    return Thing(draw_thing(chance, ahead), draw_thing(chance, pairs - 1 - ahead))


def draw_deeds(chance, many, floors=8, names=10, told=3):
    """A row of so many deeds, those within rows too, in at most so many floors, of the first so many names."""
    deeds = []
    while many > 0:
        kind = chance.choice(KINDS if floors else KINDS[:5])
        if kind in ("while", "if"):
            inner = chance.randint(0, many - 1)
            many -= 1 + inner
            deeds.append(draw_look(chance, kind, inner, (floors - 1, names, told)))
        else:
            many -= 1
            deeds.append(draw_making(chance, kind, names, told))
    return tuple(deeds)


def draw_making(chance, kind, names, told):
    name = chance.randrange(names)
    if kind == "told":
        return (kind, name, draw_thing(chance, chance.randint(0, told)))
    others = 1 if kind in ("first", "second") else 2
    return (kind, name, *[chance.randrange(names) for _ in range(others)])


def draw_look(chance, kind, inner, bounds):
    name = chance.randrange(bounds[1])
    if kind == "if":
        ahead = chance.randint(0, inner)
        return (kind, name, draw_deeds(chance, ahead, *bounds), draw_deeds(chance, inner - ahead, *bounds))
    if inner and chance.random() < 0.7:
        # Most whiles take their name apart, so that some end.
        return (kind, name, draw_deeds(chance, inner - 1, *bounds) + (("second", name, name),))
    return (kind, name, draw_deeds(chance, inner, *bounds))


def draw_program(chance, many, floors=8, names=10, told=3):
    return Program(draw_deeds(chance, many, floors, names, told))


def rows_of(deed):
    return [part for part in deed[1:] if isinstance(part, tuple)]


def how_many(row):
    """How many deeds stand in a row, those within rows too."""
    return sum(1 + sum(how_many(inner) for inner in rows_of(deed)) for deed in row)


def walk_row(row, first, names):
    """Does a row, straight by the rules; tells the point of each deed just ahead of doing it."""
    for deed in row:
        yield first
        kind, name = deed[:2]
        if kind == "while":
            while names[name] != NIL:
                yield from walk_row(deed[2], first + 1, names)
                yield first
        elif kind == "if" and names[name] != NIL:
            yield from walk_row(deed[2], first + 1, names)
        elif kind == "if":
            yield from walk_row(deed[3], first + 1 + how_many(deed[2]), names)
        else:
            names[name] = walk_making(deed, names)
        first += how_many((deed,))


def walk_making(deed, names):
    if deed[0] == "told":
        return deed[2]
    if deed[0] == "first":
        return names[deed[2]].head()
    if deed[0] == "second":
        return names[deed[2]].tail()
    if deed[0] == "pair":
        return Thing(names[deed[2]], names[deed[3]])
    return ONE if str(names[deed[2]]) == str(names[deed[3]]) else NIL


def walk(program, thing, many):
    """At most so many (point, names) of a run, and whether it ended, is "great", or goes on ("open")."""
    names = [thing] + [NIL] * 9
    found = []
    try:
        for point in walk_row(program.deeds, 0, names):
            if len(found) == many:
                return found, "open"
            found.append((point, tuple(names)))
    except TooGreat:
        return found, "great"
    if len(found) == many:
        return found, "open"
    found.append((how_many(program.deeds), tuple(names)))
    return found, "ended"


def draw_coded(chance, most, names=10, told=3):
    """A program whose code has at most so many pairs, and not many fewer."""
    deeds = ()
    while True:
        more = draw_deeds(chance, chance.randint(1, 6), names=names, told=told)
        more = Program(deeds + more)
        if len(code_of(more)) > most:
            return Program(deeds)
        deeds = more.deeds


def first_again(program, thing, budget):
    """The first (early, late) of a run up to so many steps; None where there is none."""
    known = {}

    def key(part):
        # The thing is kept, so no other one gets its number.
        if id(part) not in known:
            known[id(part)] = (part, str(part))
        return known[id(part)][1]

    stand, seen = begin(program, thing), {}
    for steps in range(budget + 1):
        told = (stand.point, *[key(part) for part in stand.names])
        if told in seen:
            return seen[told], steps
        seen[told] = steps
        try:
            stand = step(program, stand)
        except (NoStep, TooGreat):
            return None
    return None


def lasting(steps, name=7, other=1):
    """Deeds that take just so many steps, from 4 on, whatever the names stand for; they leave name 0 alone."""
    idle = ("told", other, NIL)
    best = None
    for rounds in range(1, 201):
        each, more = divmod(steps - 2, rounds)
        if each >= 2 and (best is None or rounds + 5 * (each + more) < best[0]):
            best = (rounds + 5 * (each + more), rounds, each, more)
    _, rounds, each, more = best
    inner = (idle,) * (each - 2) + (("second", name, name),)
    return (("told", name, right(rounds)), ("while", name, inner)) + (idle,) * more
