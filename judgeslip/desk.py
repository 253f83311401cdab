"""The desk: programs and things by names, and rows of words that ask for what is done with them."""

from judgeslip.codes import code_of, program_of
from judgeslip.endless import endless
from judgeslip.errors import NoName, NoSaying
from judgeslip.given import half_given
from judgeslip.owns import own_code
from judgeslip.programs import Program
from judgeslip.reading import read_thing
from judgeslip.runner import runner
from judgeslip.runs import run
from judgeslip.slips import slip
from judgeslip.small import small
from judgeslip.things import Thing
from judgeslip.words import read_program

NAME_LETTERS = "abcdefghijklmnopqrstuvwxyz"
MOST_LETTERS = 8
FIGURES = "0123456789"
# Of the two signs for N.
MOST_COUNTS = {"n": 20000, "s": 10000}
# What stands behind the first word of each row: w a NEW, p a program's name,
# t a thing's, e one of either, d the same to drop, n a N, s that of slip, x a TEXT.
SHAPES = {
    "program": "wx", "thing": "wx", "code": "wp", "read": "wt", "pair": "wtt", "given": "wpt", "own": "wp",
    "small": "wp", "runner": "w", "run": "ptn", "endless": "ptn", "slip": "wpts", "size": "e", "show": "e",
    "drop": "d", "names": "",
}


def is_name(word):
    """Whether this is a name for the desk."""
    return 1 <= len(word) <= MOST_LETTERS and all([letter in NAME_LETTERS for letter in word])


def is_count(word, most):
    """Whether this is a whole number up to the most, in figures without a nought ahead."""
    # Longer ones are above any such, and Python itself refuses to read very long ones.
    if not 1 <= len(word) <= len(str(most)) or not all([figure in FIGURES for figure in word]):
        return False
    return (word == "0" or word[0] != "0") and int(word) <= most


def fits(word, sign):
    """Whether a word of a row is what the sign of its shape asks for."""
    if sign == "x":
        return True
    if sign in MOST_COUNTS:
        return is_count(word, MOST_COUNTS[sign])
    return is_name(word)


def words_said(row):
    """The words of a row, TEXT as one; refuses what is no such row."""
    if not isinstance(row, str):
        raise NoSaying(row)
    first = row.split(" ")[0]
    if first not in SHAPES:
        raise NoSaying(row)
    shape = SHAPES[first]
    words = row.split(" ", len(shape)) if "x" in shape else row.split(" ")
    if len(words) != 1 + len(shape) or not all([fits(word, sign) for word, sign in zip(words[1:], shape)]):
        raise NoSaying(row)
    return words


def meant(kept, word, sign):
    """What a word of a row stands for; refuses a name by which nothing that is due stands."""
    if sign in "wx":
        return word
    if sign in MOST_COUNTS:
        return int(word)
    if not is_kept(kept, word, sign):
        raise NoName(word)
    return word if sign == "d" else kept[word]


def is_kept(kept, name, sign):
    """Whether something of the kind that is due stands by a name."""
    if name not in kept:
        return False
    if sign == "p":
        return isinstance(kept[name], Program)
    return isinstance(kept[name], Thing) if sign == "t" else True


def say_program(kept, told):
    """Keeps the program of a text."""
    kept[told[0]] = read_program(told[1])
    return "ok"


def say_thing(kept, told):
    """Keeps the thing of a text."""
    kept[told[0]] = read_thing(told[1])
    return "ok"


def say_code(kept, told):
    """Keeps a program's code."""
    kept[told[0]] = code_of(told[1])
    return "ok"


def say_read(kept, told):
    """Keeps a code's program."""
    kept[told[0]] = program_of(told[1])
    return "ok"


def say_pair(kept, told):
    """Keeps the pair of two things."""
    kept[told[0]] = Thing(told[1], told[2])
    return "ok"


def say_given(kept, told):
    """Keeps a program with a thing given."""
    kept[told[0]] = half_given(told[1], told[2])
    return "ok"


def say_own(kept, told):
    """Keeps a program that has its own code."""
    kept[told[0]] = own_code(told[1])[0]
    return "ok"


def say_small(kept, told):
    """Keeps a program told anew with one loop and three names."""
    kept[told[0]] = small(told[1])
    return "ok"


def say_runner(kept, told):
    """Keeps the runner."""
    kept[told[0]] = runner()
    return "ok"


def say_run(kept, told):
    """Answers with a run."""
    return str(run(told[0], told[1], told[2]))


def say_endless(kept, told):
    """Answers whether a run is seen to be endless, and how."""
    paper = endless(told[0], told[1], told[2])
    if paper is None:
        return "-"
    if paper[0] == "again":
        return f"again {paper[3]} {paper[4]}"
    return f"closed {paper[3]} {len(paper[4])}"


def say_slip(kept, told):
    """Keeps a judge's slip, and answers with its word."""
    word, made, paper = slip(told[1], told[2], told[3])
    kept[told[0]] = made
    return word


def say_size(kept, told):
    """Answers how many deeds or pairs there are."""
    return str(len(told[0]))


def say_show(kept, told):
    """Answers with a text."""
    return str(told[0])


def say_drop(kept, told):
    """Keeps what stands by a name no more."""
    del kept[told[0]]
    return "ok"


def say_names(kept, told):
    """Answers with all names."""
    return " ".join(sorted(kept)) if kept else "-"


ACTIONS = {
    "program": say_program, "thing": say_thing, "code": say_code, "read": say_read, "pair": say_pair,
    "given": say_given, "own": say_own, "small": say_small, "runner": say_runner, "run": say_run,
    "endless": say_endless, "slip": say_slip, "size": say_size, "show": say_show, "drop": say_drop,
    "names": say_names,
}


class Desk:
    """Keeps programs and things by names."""

    def __init__(self):
        self.kept = {}

    def say(self, row):
        """Does what a row of words asks for, and answers with a text."""
        words = words_said(row)
        told = [meant(self.kept, word, sign) for word, sign in zip(words[1:], SHAPES[words[0]])]
        action = ACTIONS[words[0]]
        return action(self.kept, told)
