"""Reading the texts of programs, word by word."""

from judgeslip.errors import NoText
from judgeslip.programs import FORMS, LETTERS, MOST_DEEDS, MOST_FLOORS, Program
from judgeslip.reading import read_thing

LOOKS = ("while", "if")
TAKERS = ("first", "second", "pair", "same")


class Reader:
    """The words of a text, how many of them were read, and how many deeds were begun."""

    def __init__(self, words):
        self.words = words
        self.at = 0
        self.begun = 0


def read_program(text):
    """The program that has this text."""
    reader = Reader(text.split(" ") if text else [])
    deeds = read_row(reader, 0)
    if reader.at < len(reader.words):
        raise NoText(reader.at)
    return Program(deeds)


def ahead(reader):
    """The word that is read next; None at the end."""
    return reader.words[reader.at] if reader.at < len(reader.words) else None


def take(reader, right):
    """Reads a word that must be one of the right ones."""
    word = ahead(reader)
    if word not in right:
        raise NoText(reader.at)
    reader.at += 1
    return word


def first_words(floors):
    """The words with which a deed's text begins, in a row that stands in so many whiles and ifs."""
    letters = list(LETTERS)
    return letters if floors == MOST_FLOORS else [*letters, *LOOKS]


def read_row(reader, floors):
    """Reads deeds up to a word that is none of a row's; whoever asked looks whether it is right."""
    if reader.begun == MOST_DEEDS or ahead(reader) not in first_words(floors):
        return ()
    deeds = [read_deed(reader, floors)]
    # With no deed left to begin, no program's text goes on with this word.
    while ahead(reader) == ";" and reader.begun < MOST_DEEDS:
        reader.at += 1
        deeds.append(read_deed(reader, floors))
    return tuple(deeds)


def read_deed(reader, floors):
    """Reads a deed of a row that stands in so many whiles and ifs."""
    word = take(reader, first_words(floors))
    reader.begun += 1
    if word in LOOKS:
        return read_look(reader, word, floors)
    name = LETTERS.index(word)
    take(reader, ("=",))
    if ahead(reader) not in TAKERS:
        return ("told", name, read_told(reader))
    kind = take(reader, TAKERS)
    others = [read_name(reader) for sign in FORMS[kind][1:]]
    return (kind, name, *others)


def read_look(reader, kind, floors):
    """Reads a while or an if behind its first word."""
    name = read_name(reader)
    inner = []
    for sign in FORMS[kind][1:]:
        take(reader, ("[",))
        inner.append(read_row(reader, floors + 1))
        take(reader, ("]",))
    return (kind, name, *inner)


def read_name(reader):
    """Reads a letter, tells the name."""
    return LETTERS.index(take(reader, list(LETTERS)))


def read_told(reader):
    """Reads the text of a thing."""
    word = ahead(reader)
    if word is None:
        raise NoText(reader.at)
    try:
        thing = read_thing(word)
    except NoText:
        raise NoText(reader.at) from None
    reader.at += 1
    return thing
