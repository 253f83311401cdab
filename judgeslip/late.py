"""Programs that bound steps by size, and the programs that end later than these say."""

from judgeslip.endless import endless
from judgeslip.programs import Program
from judgeslip.runs import run
from judgeslip.things import number

# What comes behind the bounder's deeds: it takes more steps than the row told has things.
BEHIND = (("while", 0, (("second", 0, 0),)),)
MORE_DEEDS = 3


def late(bounder, budget=4000):
    """What comes of a bounder on the late one's size: a word, the late one, and a paper."""
    size = number(len(bounder) + MORE_DEEDS)
    made = Program((("told", 0, size),) + bounder.deeds + BEHIND)
    if run(bounder, size, budget).word == "ended":
        return ("late", made, ("late", bounder, made))
    paper = endless(bounder, size, budget)
    return ("open" if paper is None else "silent", made, paper)
