"""The looker: whether a paper, whoever wrote it, is so."""

from judgeslip.codes import code_of
from judgeslip.cuts import cut_begin, cut_steps
from judgeslip.errors import NoStep, TooGreat
from judgeslip.numbered import MARK, NIL, Shelf, Walk, go_on, hangs_on_mark
from judgeslip.programs import MANY_NAMES, Program, rows_in
from judgeslip.runs import begin, run, saying, step
from judgeslip.things import Thing, number, parts

MOST_STEPS = 20000
MOST_LATE_DEEDS = 200
MOST_DEPTH = 4
# What stands in a paper behind its word: p a program, t a thing, n a whole
# number, l a list, w a text, a anything.
FORMS = {"run": "pttn", "again": "ptnn", "closed": "ptnl", "slip": "ptpwa", "twins": "pppn", "late": "pp"}


def is_number(part):
    """Whether this is a whole number."""
    return isinstance(part, int) and not isinstance(part, bool)


def fits(part, sign):
    """Whether this is what the sign of a form asks for."""
    if sign == "p":
        return isinstance(part, Program)
    if sign == "t":
        return isinstance(part, Thing)
    if sign == "n":
        return is_number(part)
    if sign == "l":
        return isinstance(part, list)
    return isinstance(part, str) or sign == "a"


def has_form(paper):
    """Whether this has the form of a paper."""
    if not isinstance(paper, tuple) or len(paper) == 0:
        return False
    word = paper[0]
    if not isinstance(word, str) or word not in FORMS:
        return False
    form = FORMS[word]
    return len(paper) == 1 + len(form) and all([fits(part, sign) for part, sign in zip(paper[1:], form)])


def run_holds(paper):
    """Whether a run ends by just so many steps and tells just this."""
    program, thing, told, steps = paper[1:]
    if steps < 0 or steps > MOST_STEPS:
        return False
    found = run(program, thing, steps)
    return found.word == "ended" and found.steps == steps and found.thing == told


def again_holds(paper):
    """Whether the stands behind early and late steps are the same."""
    program, thing, early, late = paper[1:]
    if early < 0 or early >= late or late > MOST_STEPS:
        return False
    first = stand_later(program, begin(program, thing), early)
    if first is None:
        return False
    second = stand_later(program, first, late - early)
    return second is not None and first == second


def stand_later(program, stand, steps):
    """The stand so many steps later; None where the run doesn't go so far."""
    found = stand
    for done in range(steps):
        try:
            found = step(program, found)
        except (NoStep, TooGreat):
            return None
    return found


def closed_holds(paper):
    """Whether all the stands are cut stands, the beginning's among them, and no step leads out of them."""
    program, thing, depth, stands = paper[1:]
    if depth < 1 or depth > MOST_DEPTH or not all([is_cut_stand(stand, len(program), depth) for stand in stands]):
        return False
    # Only now, as what is no cut stand may be no key, or be the same as one (True and 1).
    known = {stand: True for stand in stands}
    if cut_begin(thing, depth) not in known:
        return False
    return all([later in known for stand in known for later in cut_steps(program, stand, depth)])


def is_cut_stand(stand, end, depth):
    """Whether this is a cut stand at a deed."""
    if not isinstance(stand, tuple) or len(stand) != 2:
        return False
    point, cuts = stand
    if not is_number(point) or point < 0 or point >= end:
        return False
    return isinstance(cuts, tuple) and len(cuts) == MANY_NAMES and all([is_cut(told, depth) for told in cuts])


def is_cut(told, depth):
    """Whether this is a cut thing, at most so deep."""
    if told is None:
        return True
    if depth == 0 or not isinstance(told, tuple):
        return False
    return len(told) == 0 or (len(told) == 2 and all([is_cut(part, depth - 1) for part in told]))


PLAIN_LOOKS = {"run": run_holds, "again": again_holds, "closed": closed_holds}


def plain_holds(paper, words, program, thing):
    """Whether a paper is right, and one with one of these words, of this program and thing."""
    if not has_form(paper) or paper[0] not in words:
        return False
    look = PLAIN_LOOKS[paper[0]]
    return paper[1] == program and paper[2] == thing and look(paper)


def slip_holds(paper):
    """Whether a judge slips on the program and the thing, by the word."""
    judge, thing, program, word, inner = paper[1:]
    asked = asked_of(program, thing)
    if asked is None:
        return False
    endless = ("again", "closed")
    if word == "silent":
        return plain_holds(inner, endless, judge, asked)
    if word == "ends":
        return plain_holds(inner, endless, program, thing) and saying(judge, asked, MOST_STEPS) is True
    if word == "doesn't":
        return plain_holds(inner, ("run",), program, thing) and saying(judge, asked, MOST_STEPS) is False
    return False


def asked_of(program, thing):
    """The pair of a program's code and a thing; None where it is too great."""
    try:
        return Thing(code_of(program), thing)
    except TooGreat:
        return None


def twins_holds(paper):
    """Whether a judge says unlike things of two programs, and the one does what the other does, count steps later."""
    judge, one, other, count = paper[1:]
    if count < 0 or count > MOST_STEPS or not comes_to(one, other, count):
        return False
    says = [code_saying(judge, one), code_saying(judge, other)]
    return True in says and False in says


def code_saying(judge, program):
    """What a judge says of a program's code; None where it says nothing, or the code is too great."""
    try:
        code = code_of(program)
    except TooGreat:
        return None
    return saying(judge, code, MOST_STEPS)


def comes_to(one, other, count):
    """Whether the one's run with a mark stands ahead of the other's deeds behind so many steps."""
    walk = Walk(one, Shelf(), MARK)
    for done in range(count):
        if walk.point == len(one) or hangs_on_mark(walk):
            return False
        try:
            go_on(walk)
        except TooGreat:
            return False
    if walk.point == len(one):
        return False
    places = []
    add_places(one.deeds, True, places)
    row, at, last = places[walk.point]
    if not last or row[at:] != other.deeds:
        return False
    return walk.names[0] == MARK and all([walk.names[name] == NIL for name in other.used() if name > 0])


def add_places(row, last, places):
    """Adds for each deed, as they are read, its row, its place there, and whether the end comes behind that row."""
    for at, deed in enumerate(row):
        places.append((row, at, last))
        inner_last = last and at + 1 == len(row) and deed[0] == "if"
        for part in rows_in(deed):
            add_places(part, inner_last, places)


def late_holds(paper):
    """Whether a program ends later than a bounder says of its size."""
    bounder, program = paper[1:]
    if len(program) > MOST_LATE_DEEDS:
        return False
    said = run(bounder, number(len(program)), MOST_STEPS)
    found = run(program, Thing(), MOST_STEPS)
    return said.word == "ended" and found.word == "ended" and found.steps > len(parts(said.thing))


LOOKS = {
    "run": run_holds, "again": again_holds, "closed": closed_holds,
    "slip": slip_holds, "twins": twins_holds, "late": late_holds,
}


def holds(paper):
    """Whether this is a paper, and so."""
    if not has_form(paper):
        return False
    look = LOOKS[paper[0]]
    return look(paper)
