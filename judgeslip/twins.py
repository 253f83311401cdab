"""Judges of doing, and the programs that do the same of which they say unlike things."""

from judgeslip.codes import code_of
from judgeslip.errors import NoRoom
from judgeslip.owns import own_code
from judgeslip.programs import Program, rows_in
from judgeslip.runs import run, saying
from judgeslip.things import Thing

# What the judge and the two leave free: the names 8 and 9, and one while or if.
ROOM_NAMES = 8
ROOM_FLOORS = 7


def twins(judge, one, other, budget=4000):
    """A word, and, where the judge holds the two unlike, a twin of one of them, that one, and the steps ahead."""
    look_for_room(judge, one, other)
    codes = [code_of(one), code_of(other)]
    first, second = [saying(judge, code, budget) for code in codes]
    if first is None or second is None:
        return ("open", None, None, 0)
    if first == second:
        return ("alike", None, None, 0)
    good, bad = (one, other) if first else (other, one)
    made, ahead = twin_of(judge, good, bad)
    said = run(judge, code_of(made), budget)
    if said.word != "ended":
        return ("open", None, None, 0)
    return ("twins", made, bad if said.thing.size else good, ahead + said.steps)


def look_for_room(judge, one, other):
    """Refuses programs that leave no room for what is built around them."""
    programs = [judge, one, other]
    if any([name >= ROOM_NAMES for program in programs for name in program.used()]):
        raise NoRoom("names")
    if any([floors_in(program.deeds) > ROOM_FLOORS for program in programs]):
        raise NoRoom("depth")
    if not one.deeds or not other.deeds:
        raise NoRoom("deeds")


def floors_in(row):
    """How many whiles and ifs stand within one another in a row, at most."""
    most = 0
    for deed in row:
        for part in rows_in(deed):
            most = max(most, 1 + floors_in(part))
    return most


def twin_of(judge, good, bad):
    """The program that asks the judge of itself, and is then bad where it is held good, and good where bad.

    Told with it are the steps that it does beside the judge's, ahead of the deeds of either.
    """
    # Judges of too many deeds for a program around them are refused for their codes.
    code_of(judge)
    nil = Thing()
    # Name 8 keeps the input while the judge's deeds are done.
    keep = (("second", 8, 0), ("first", 0, 0))
    clear = tuple([("told", name, nil) for name in judge.used() if name > 0])
    back = (("pair", 0, 8, 9), ("first", 0, 0), ("told", 8, nil))
    choice = ("if", 0, back + bad.deeds, back + good.deeds)
    made, count = own_code(Program(keep + judge.deeds + clear + (choice,)))
    return made, count + len(keep) + len(clear) + 1 + len(back)
