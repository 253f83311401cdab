"""Judges of ending, and the programs on which they slip."""

from judgeslip.codes import code_of
from judgeslip.endless import endless
from judgeslip.owns import own_code
from judgeslip.programs import Program
from judgeslip.runs import run
from judgeslip.things import Thing


def slip(judge, thing, budget=4000):
    """What comes of a judge on its slip and the thing: a word, the slip, and a paper."""
    made, ahead = slip_of(judge)
    asked = Thing(code_of(made), thing)
    said = run(judge, asked, budget)
    if said.word != "ended":
        paper = endless(judge, asked, budget)
        return ("open" if paper is None else "silent", made, paper)
    # The slip does what the judge does of the very same pair, and then looks at what the judge says.
    steps = ahead + said.steps
    if said.thing.size:
        return ("ends", made, ("again", made, thing, steps, steps + 1))
    return ("doesn't", made, ("run", made, thing, said.thing, steps + 1))


def slip_of(judge):
    """The program that asks the judge of itself and does the contrary; the steps ahead of the judge's deeds."""
    # A judge of too many deeds for a program with one more is refused for its code.
    code_of(judge)
    return own_code(Program(judge.deeds + (("while", 0, ()),)))
