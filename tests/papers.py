"""Papers bent out of their form, any things, and the check that tests of the looker share."""

import unittest

from judgeslip.looker import holds
from judgeslip.programs import Program
from judgeslip.things import Thing
from drawing import draw_program, draw_thing
from shapes import NIL, ONE

STRANGERS = (None, True, False, 7, "", "ends", "again", [], (), [None], (None,), NIL, Program(()))


class Papers(unittest.TestCase):
    def check(self, paper, told):
        """What the looker says; where None is told either truth will do."""
        found = holds(paper)
        self.assertIsInstance(found, bool)
        self.assertIs(holds(paper), found)
        if told is not None:
            self.assertIs(found, told, repr(paper)[:300])

    def check_bent(self, paper):
        for other in bent(paper):
            self.check(other, False)


def kind(part):
    """What sort of value this is; a truth is no number, and each text is one of its own."""
    if isinstance(part, str):
        return part
    return "truth" if isinstance(part, bool) else type(part).__name__


def bent(paper):
    """Papers like this one with a part left out, told twice, exchanged, or of another kind."""
    yield list(paper)
    yield [*paper]
    yield (paper,)
    yield ()
    for at, part in enumerate(paper):
        yield paper[:at] + paper[at + 1:]
        yield paper[:at] + (part,) + paper[at:]
        for stranger in STRANGERS:
            if kind(stranger) != kind(part):
                yield paper[:at] + (stranger,) + paper[at + 1:]
        for later in range(at + 1, len(paper)):
            if kind(part) != kind(paper[later]):
                swapped = list(paper)
                swapped[at], swapped[later] = paper[later], part
                yield tuple(swapped)
    for stranger in STRANGERS:
        yield paper + (stranger,)
        yield (stranger,) + paper


def nested(depth, shut=tuple):
    """Tuples, or lists, so deep within one another."""
    told = shut()
    for _ in range(depth - 1):
        told = shut([told])
    return told


def draw_any(chance, depth):
    """Any thing, built at most so deep."""
    what = chance.randrange(10 if depth else 7)
    if what < 7:
        return [None, chance.random() < 0.5, chance.choice([0, 1, 2, -1, 20000, 10 ** 11]),
                chance.choice(["", "run", "again", "closed", "ends", "doesn't", "silent"]),
                draw_thing(chance, chance.randint(0, 3)), draw_program(chance, chance.randint(0, 3)),
                chance.choice([ONE, Thing()])][what]
    inner = [draw_any(chance, depth - 1) for _ in range(chance.randint(0, 5))]
    return inner if what == 7 else tuple(inner)
