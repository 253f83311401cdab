"""Programs told as things: their codes, and how these are read."""

from judgeslip.errors import NoProgram
from judgeslip.programs import FORMS, MOST_FLOORS, Program
from judgeslip.things import Thing, counted, number, parts, row


def code_of(program):
    """The thing that tells a program."""
    return row_code(program.deeds)


def row_code(deeds):
    """The code of a row of deeds."""
    return row([deed_code(deed) for deed in deeds])


def deed_code(deed):
    """The code of a deed."""
    kind = deed[0]
    told = [number(list(FORMS).index(kind))]
    for part, sign in zip(deed[1:], FORMS[kind]):
        told.append(part_code(part, sign))
    return row(told)


def part_code(part, sign):
    """The code of a part of a deed; the sign is that of its form."""
    if sign == "n":
        return number(part)
    if sign == "t":
        return part
    return row_code(part)


def program_of(thing):
    """The program that a thing tells."""
    if not isinstance(thing, Thing):
        raise NoProgram(0)
    return Program(row_told(thing, 0))


def is_code(thing):
    """Whether a thing tells a program."""
    try:
        program_of(thing)
    except NoProgram:
        return False
    return True


def row_told(thing, floors):
    """The row that a thing tells; where a deed of it is none, something stands there that Program refuses."""
    return tuple([deed_told(part, floors) for part in parts(thing)])


def deed_told(code, floors):
    """The deed that a thing tells, in a row that stands in so many whiles and ifs; else no deed."""
    told = parts(code)
    kind = kind_told(told)
    if kind is None or len(told) != 1 + len(FORMS[kind]):
        return ()
    # Deeper ones are refused whatever they are, and the calls would go as deep as the code does.
    if "r" in FORMS[kind] and floors == MOST_FLOORS:
        return ()
    inner = [part_told(part, sign, floors) for part, sign in zip(told[1:], FORMS[kind])]
    return (kind, *inner)


def kind_told(told):
    """The kind that the first in a deed's code tells; None where it tells none."""
    many = counted(told[0]) if told else None
    if many is None or many >= len(FORMS):
        return None
    return list(FORMS)[many]


def part_told(part, sign, floors):
    """What a part of a deed's code tells; the sign is that of the deed's form."""
    if sign == "n":
        return counted(part)
    if sign == "t":
        return part
    return row_told(part, floors + 1)
