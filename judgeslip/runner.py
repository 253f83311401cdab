"""The runner: one program that runs all programs."""

from judgeslip.words import read_program

# What its names stand for:
#   a  the row of what the ten names of the program stand for
#   b  the rows of deeds that wait, the innermost first; each begins with the
#      deed that is done next in it
#   c  the deed in hand, then what stands behind its kind
#   d  the kind
#   e  the number of a name, counted down
#   f  what a name stands for, then what the deed makes
#   g  what another name stands for
#   h  the names that are laid aside to get at a later one, the last first
# Nothing here grows from step to step, so where the program's run comes again
# this one's does, too.

# The whole program waits, and of the ten names all but the first stand for nil.
BEGIN = (
    "b = first a ; e = . ; b = pair b e ; "
    "a = second a ; e = (.(.(.(.(.(.(.(.(..))))))))) ; a = pair a e"
)

# The kinds from 5 on are the looks, so g stands for a pair there.
TAKE = "c = first c ; d = first c ; c = second c ; g = second d ; g = second g ; g = second g ; g = second g"

STORE = (
    "e = first c ; h = . ; "
    "while e [ g = first a ; h = pair g h ; a = second a ; e = second e ] ; "
    "a = second a ; a = pair f a ; "
    "while h [ g = first h ; a = pair g a ; h = second h ]"
)

# The deed that was done leaves its row.
GO_ON = "d = first b ; d = second d ; b = second b ; b = pair d b"


def runner():
    """The program that runs all programs."""
    deed_done = f"{TAKE} ; if g [ {look()} ] [ {making()} ; {STORE} ; {GO_ON} ]"
    row_done = f"c = first b ; if c [ {deed_done} ] [ b = second b ]"
    return read_program(f"{BEGIN} ; while b [ {row_done} ] ; a = first a")


def look():
    """The text of what a while or an if does; g is a number, 1 for a while and 2 for an if."""
    fetched = fetch("f")
    push = "c = first c ; b = pair c b"
    # A while stays the first of its row, behind the row that it has: so it is done again.
    while_done = f"if f [ {push} ] [ {GO_ON} ]"
    if_done = f"{GO_ON} ; if f [ ] [ c = second c ] ; {push}"
    return f"e = first c ; {fetched} ; c = second c ; g = second g ; if g [ {if_done} ] [ {while_done} ]"


def making():
    """The text of what makes f what the first name of any other deed will stand for; the kind is counted down."""
    one, other = fetch("f"), fetch("g")
    of_two = f"h = second h ; e = first h ; {other} ; d = second d ; if d [ f = same f g ] [ f = pair f g ]"
    of_later = f"d = second d ; if d [ {of_two} ] [ f = second f ]"
    of_names = f"h = second c ; e = first h ; {one} ; d = second d ; if d [ {of_later} ] [ f = first f ]"
    return f"if d [ {of_names} ] [ h = second c ; f = first h ]"


def fetch(letter):
    """The text of what makes the letter stand for what the name of the number e stands for."""
    # No deed copies a name, so a pair is made and taken apart.
    copied = f"{letter} = pair a a ; {letter} = first {letter}"
    return f"{copied} ; while e [ {letter} = second {letter} ; e = second e ] ; {letter} = first {letter}"
