"""Programs that have half of their input given, and the program that makes their codes."""

from judgeslip.programs import Program
from judgeslip.things import Thing
from judgeslip.words import read_program

# Of the pair of a code and a thing: b the code, a the thing. The codes of the
# three deeds are put ahead of the code, the last deed's first.
GIVER = (
    "b = first a ; a = second a ; "
    "c = . ; a = pair a c ; c = (..) ; a = pair c a ; c = . ; a = pair c a ; "
    "c = (.((..)(..))) ; b = pair c b ; "
    "c = ((.(.(..)))(.((..)(..)))) ; b = pair c b ; "
    "a = pair a b"
)


def half_given(program, thing):
    """The program with the thing given as the first half of its input."""
    ahead = (("told", 1, thing), ("pair", 0, 1, 0), ("told", 1, Thing()))
    return Program(ahead + program.deeds)


def giver():
    """The program that tells, of the pair of a code and a thing, the code of that program with the thing given."""
    return read_program(GIVER)
