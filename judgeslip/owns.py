"""Programs that have their own code, alone or with one another's."""

from judgeslip.codes import code_of
from judgeslip.given import giver, half_given
from judgeslip.programs import Program
from judgeslip.things import row
from judgeslip.words import read_program

# Around what the giver does, with its names a, b and c: d keeps the input x.
OWN_BEGIN = "d = second a ; a = first a ; a = pair a a"
OWN_END = "a = pair a d ; b = . ; c = . ; d = ."

# The same for several: e keeps the row of codes that is given to each, and f
# has the row of own codes, which comes to be from its last one on.
ROW_BEGIN = "d = second a ; e = first a"
ROW_PART = "f = pair a f"
ROW_END = "a = pair f d ; b = . ; c = . ; d = . ; e = . ; f = ."


def own_code(program):
    """A program that has its own code beside its input and then does this one's deeds; the steps ahead of these."""
    ahead = read_program(OWN_BEGIN).deeds + giver().deeds + read_program(OWN_END).deeds
    reader = put_ahead(ahead, program)
    return own_and_count(reader, code_of(reader), program)


def own_codes(programs):
    """For each program one that has the row of the codes of all that are told here; the steps ahead, as above."""
    ahead = row_ahead(len(programs))
    readers = [put_ahead(ahead, program) for program in programs]
    given = row([code_of(reader) for reader in readers])
    return [own_and_count(reader, given, program) for reader, program in zip(readers, programs)]


def teller():
    """A program that tells its own code."""
    return own_code(read_program("a = first a"))[0]


def put_ahead(ahead, program):
    """The program with these deeds ahead of its own."""
    # One of too many deeds is of too many pairs, too, and that is what is refused here.
    code_of(program)
    return Program(ahead + program.deeds)


def own_and_count(reader, given, program):
    """The reader with the thing given, and how many steps it does ahead of the program's deeds."""
    own = half_given(reader, given)
    # One whose code is too great could never have it.
    code_of(own)
    # No deed ahead is a look, so each is one step.
    return own, len(own.deeds) - len(program.deeds)


def row_ahead(many):
    """What makes, of the pair of a given row of so many codes and x, the pair of the row of own codes and x."""
    ahead = read_program(ROW_BEGIN).deeds
    for at in reversed(range(many)):
        ahead += code_picked(at) + giver().deeds + read_program(ROW_PART).deeds
    return ahead + read_program(ROW_END).deeds


def code_picked(at):
    """What makes the pair of the code at this place of the given row and the row itself, for the giver."""
    later = " ; a = second a" * at
    return read_program(f"a = pair e e ; a = first a{later} ; a = first a ; a = pair a e").deeds
