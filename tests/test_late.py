"""Bounders of steps and the programs that end later: point 21 of the document, and what 3 promises of them."""

import unittest

from judgeslip.endless import endless
from judgeslip.late import late
from judgeslip.looker import holds
from judgeslip.programs import Program
from judgeslip.runs import run
from judgeslip.things import number, parts
from judgeslip.words import read_program
from cutting import needs_depth
from drawing import draw_program, lasting, source
from shapes import NIL, ONE, full, left, right

INPUTS = [NIL, ONE, number(7), left(50), right(400), full(8)]
# Tells its input twice, one row behind the other.
TWICE = read_program("b = pair a c ; b = first b ; while b [ b = second b ; a = pair c a ]")


class Bounding(unittest.TestCase):
    def check_late(self, bounder, budget=4000):
        """All that is told of the late one is so; tells the word."""
        told = late(bounder, budget)
        self.assertIs(type(told), tuple)
        word, made, paper = told
        many = len(bounder) + 3
        self.assertEqual(len(made), many)
        self.assertEqual(made.deeds, (("told", 0, number(many)),) + bounder.deeds
                         + (("while", 0, (("second", 0, 0),)),))
        said = run(bounder, number(many), budget)
        if said.word == "ended":
            self.assertEqual((word, paper), ("late", ("late", bounder, made)))
            self.check_run(made, said)
        else:
            self.assertEqual(paper, endless(bounder, number(many), budget))
            self.assertEqual(word, "open" if paper is None else "silent")
        if paper is not None:
            self.assertIs(holds(paper), True)
        return word

    def check_run(self, made, said):
        """It ends, later than the bounder says, and by the same steps whatever its input."""
        many = len(parts(said.thing))
        for thing in INPUTS:
            whole = run(made, thing, 20000)
            self.assertEqual(whole.word, "ended")
            self.assertEqual(whole.steps, 1 + said.steps + 2 * many + 1)
            self.assertGreater(whole.steps, many)


class LateTest(Bounding):
    def test_no_deeds(self):
        self.assertEqual(self.check_late(Program(())), "late")
        _, made, _ = late(Program(()))
        self.assertEqual(made, read_program("a = (.(.(..))) ; while a [ a = second a ]"))
        # It says three, and that one takes eight.
        self.assertEqual(run(made, ONE).steps, 8)

    def test_a_row(self):
        for many in (0, 1, 5, 200):
            self.assertEqual(self.check_late(Program((("told", 0, number(many)),))), "late")
            self.assertEqual(self.check_late(Program((("told", 0, left(many)),))), "late")

    def test_its_input_and_twice_it(self):
        self.assertEqual(self.check_late(read_program("b = first a")), "late")
        self.assertEqual(self.check_late(TWICE), "late")
        self.assertEqual(len(parts(run(TWICE, number(len(TWICE) + 3)).thing)), 2 * (len(TWICE) + 3))

    def test_many_times_its_input(self):
        # Six times it makes the row twice as long.
        bounder = read_program(
            "d = (.(.(.(.(.(..)))))) ; while d [ b = pair a e ; b = first b ; "
            "while b [ b = second b ; a = pair e a ] ; d = second d ]")
        self.assertEqual(self.check_late(bounder), "late")
        self.assertEqual(len(parts(run(bounder, number(11), 4000).thing)), 11 * 64)

    def test_silent_ones(self):
        for text in ("while a [ ]", "while a [ b = first a ]"):
            word, _, paper = late(read_program(text))
            self.assertEqual((word, paper[0]), ("silent", "again"))
            self.check_late(read_program(text))
        for depth in (1, 2, 3, 4):
            word, _, paper = late(needs_depth(depth))
            self.assertEqual((word, paper and paper[0]), ("silent", "closed") if depth < 4 else ("open", None))
            self.check_late(needs_depth(depth))

    def test_a_step_that_is_refused(self):
        self.assertEqual(self.check_late(Program((("pair", 0, 0, 0),) * 12)), "open")
        self.assertEqual(self.check_late(read_program("while a [ a = pair a a ]")), "silent")

    def test_just_the_budget_and_one_more(self):
        for steps in (4, 100, 4000, 10000):
            bounder = Program(lasting(steps))
            self.assertEqual(self.check_late(bounder, steps), "late")
            self.assertEqual(self.check_late(bounder, steps - 1), "open")
        self.assertEqual(late(Program(lasting(4000)))[0], "late")
        self.assertEqual(late(Program(lasting(4001)))[0], "open")
        self.assertEqual(self.check_late(Program(()), 0), "late")
        self.assertEqual(self.check_late(Program((("told", 0, NIL),)), 0), "open")

    def test_silent_by_the_same_budget(self):
        bounder = Program(lasting(50) + (("told", 0, ONE), ("while", 0, ())))
        self.assertEqual(late(bounder, 52)[2], ("again", bounder, number(len(bounder) + 3), 51, 52))
        self.assertEqual(late(bounder, budget=51)[2][0], "closed")

    def test_the_greatest(self):
        for deed in (("told", 1, NIL), ("pair", 1, 1, 2), ("if", 3, (), ())):
            bounder = Program((deed,) * 190)
            self.assertEqual(self.check_late(bounder), "late")
            self.assertEqual(len(late(bounder)[1]), 193)
        # A long run, and a long row behind it: still seen by the looker.
        bounder = Program(lasting(9990) + (("told", 0, right(4000)),))
        self.assertEqual(self.check_late(bounder, 10000), "late")

    def test_eight_floors(self):
        deeds = (("second", 0, 0),)
        for _ in range(8):
            deeds = (("while", 0, deeds),)
        self.assertEqual(self.check_late(Program(deeds)), "late")

    def test_by_keyword(self):
        told = late(TWICE)
        self.assertEqual(late(bounder=TWICE), told)
        self.assertEqual(late(budget=4000, bounder=TWICE), told)
        self.assertEqual(late(TWICE, 10000), told)

    def test_drawn_ones(self):
        chance = source("late")
        seen = {"late": 0, "silent": 0, "open": 0}
        for _ in range(200):
            bounder = draw_program(chance, chance.randint(0, 40), names=chance.randint(1, 6), told=20)
            seen[self.check_late(bounder, chance.choice([10, 300, 4000]))] += 1
        self.assertGreater(seen["late"], 80, seen)
        self.assertGreater(seen["silent"], 10, seen)

    def test_nothing_handed_in_is_changed(self):
        kept = TWICE.deeds
        first = late(TWICE)
        self.assertEqual(TWICE.deeds, kept)
        self.assertEqual(late(TWICE), first)
        # The late one is a program like others: it bounds, too.
        self.assertEqual(self.check_late(first[1]), "late")


if __name__ == "__main__":
    unittest.main()
