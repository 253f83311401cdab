"""Runs without an end: points 16 and 18 of the document, and what 3 promises of them."""

import unittest

from judgeslip.codes import code_of
from judgeslip.cuts import closed
from judgeslip.endless import again, endless
from judgeslip.programs import Program
from judgeslip.runner import runner
from judgeslip.runs import run, stands
from judgeslip.things import Thing, number
from judgeslip.words import read_program
from cutting import needs_depth, plain_closed
from drawing import draw_coded, draw_program, draw_thing, first_again, lasting, source
from shapes import NIL, ONE, full, left, right, zigzag

GROWING = read_program("a = (..) ; while a [ a = pair a a ]")
FOR_EVER = (("told", 0, ONE), ("while", 0, ()))


def comes_again(late):
    """A program that comes again by just this late."""
    return Program(lasting(late - 2) + FOR_EVER)


class AgainTest(unittest.TestCase):
    def test_at_once(self):
        for thing in (ONE, number(3), left(400), full(8)):
            self.assertEqual(again(read_program("while a [ ]"), thing), (0, 1))
            self.assertEqual(again(read_program("while a [ if b [ ] [ ] ]"), thing), (0, 2))
        self.assertIs(type(again(read_program("while a [ ]"), ONE)), tuple)

    def test_behind_some_deeds(self):
        self.assertEqual(again(Program(FOR_EVER), NIL), (1, 2))
        self.assertEqual(again(read_program("b = . ; b = pair a a ; c = first b ; while c [ ]"), ONE), (3, 4))
        for deeds in range(4, 60):
            self.assertEqual(again(Program(lasting(deeds) + FOR_EVER), NIL), (deeds + 1, deeds + 2))

    def test_rounds_of_several_steps(self):
        for text, thing, told in (
                ("while a [ b = first a ; b = . ]", ONE, (0, 3)),
                ("while a [ b = first a ; b = second a ]", ONE, (0, 3)),
                ("while a [ b = first a ]", left(2), (2, 4)),
                ("while a [ b = pair a b ; b = . ; c = . ]", ONE, (0, 4)),
                ("while a [ while c [ c = second c ] ; c = (.(..)) ]", ONE, (1, 8)),
                ("b = (.(..)) ; c = (..) ; while c [ d = pair a b ; a = second d ; b = first d ]", left(3), (4, 12))):
            self.assertEqual(again(read_program(text), thing), told)

    def test_the_same_is_what_is_built_alike(self):
        # Each round makes the thing anew, of other pairs.
        program = read_program("while a [ b = second a ; c = first a ; a = pair c b ]")
        for thing in (number(9), left(9), zigzag(300)):
            told = again(program, thing, 9)
            self.assertIsNotNone(told)
            self.assertEqual(told, first_again(program, thing, 9))

    def test_only_all_ten_names_and_the_point_are_a_stand(self):
        for name in range(1, 10):
            # Name 0 stays the same, the other one never does.
            program = Program((("while", 0, (("pair", name, name, name),)),))
            self.assertIsNone(again(program, ONE, 20))
        self.assertIsNone(again(read_program("a = . ; a = . ; a = . ; a = ."), NIL))

    def test_budget_just_enough_and_one_too_small(self):
        for late in (6, 7, 50, 300, 2000, 2001, 20000):
            program = comes_again(late)
            self.assertEqual(again(program, ONE, late), (late - 1, late))
            self.assertEqual(again(program, ONE, budget=late + 1), (late - 1, late))
            self.assertIsNone(again(program, ONE, late - 1))
        program = read_program("while a [ b = first a ]")
        self.assertEqual(again(program, left(2), 4), (2, 4))
        self.assertIsNone(again(program, left(2), 3))

    def test_budgets(self):
        self.assertEqual(again(comes_again(2000), NIL), (1999, 2000))
        self.assertIsNone(again(comes_again(2001), NIL))
        self.assertIsNone(again(read_program("while a [ ]"), ONE, 0))
        self.assertEqual(again(read_program("while a [ ]"), ONE, 1), (0, 1))
        self.assertEqual(again(read_program("while a [ ]"), ONE, 20000), (0, 1))
        self.assertIsNone(again(Program(()), ONE, 0))
        self.assertIsNone(again(Program(lasting(20000)), ONE, 20000))

    def test_runs_that_end(self):
        for text in ("", "a = .", "while a [ a = second a ]", "if a [ ] [ ]"):
            for thing in (NIL, ONE, number(100)):
                self.assertIsNone(again(read_program(text), thing))
                self.assertIsNone(again(read_program(text), thing, 20000))

    def test_a_step_that_is_refused(self):
        self.assertEqual(run(GROWING, NIL).word, "great")
        for budget in (0, 10, 2000, 20000):
            self.assertIsNone(again(GROWING, NIL, budget))
        # Just 4,000 pairs are not refused.
        program = read_program("b = pair a a ; while b [ ]")
        self.assertIsNone(again(program, left(2000)))
        program = read_program("b = pair a c ; while b [ ]")
        self.assertEqual(again(program, left(3999)), (1, 2))
        self.assertIsNone(again(program, left(4000)))

    def test_great_things(self):
        for thing in (left(4000), right(4000), zigzag(4000), full(11)):
            self.assertEqual(again(read_program("while a [ ]"), thing), (0, 1))
            program = read_program("b = first a ; c = second a ; d = same a a ; while d [ e = first a ; e = . ]")
            self.assertEqual(again(program, thing), first_again(program, thing, 20))

    def test_by_keyword(self):
        self.assertEqual(again(program=comes_again(9), thing=NIL, budget=9), (8, 9))
        self.assertEqual(again(budget=9, thing=NIL, program=comes_again(9)), (8, 9))
        self.assertIsNone(again(thing=NIL, budget=8, program=comes_again(9)))

    def test_drawn_ones(self):
        chance = source("again, told")
        seen = 0
        for _ in range(500):
            program = draw_program(chance, chance.randint(1, 14), names=chance.randint(1, 10))
            thing = draw_thing(chance, chance.randint(0, 30))
            budget = chance.choice([0, 1, 5, 40, 150])
            told = again(program, thing, budget)
            self.assertEqual(told, first_again(program, thing, budget), f"{program} / {thing}")
            if told is not None:
                seen += 1
                early, late = told
                self.check_stands(program, thing, early, late)
        self.assertGreater(seen, 30)

    def check_stands(self, program, thing, early, late):
        """The two are the same, and none of the earlier ones are."""
        found = stands(program, thing, late + 1)
        self.assertLess(early, late)
        self.assertEqual(found[early], found[late])
        for at, stand in enumerate(found[:-1]):
            self.assertNotIn(stand, found[:at])


class EndlessTest(unittest.TestCase):
    def check_closed(self, program, thing, depth, budget=2000):
        paper = endless(program, thing, budget)
        self.assertIs(type(paper), tuple)
        self.assertEqual(paper, ("closed", program, thing, depth, plain_closed(program, thing, depth, 300)))
        self.assertIs(type(paper[4]), list)

    def test_coming_again(self):
        for text, thing, early, late in (("while a [ ]", ONE, 0, 1), ("while a [ b = first a ]", left(2), 2, 4)):
            program = read_program(text)
            self.assertEqual(endless(program, thing), ("again", program, thing, early, late))
            self.assertEqual(endless(program, thing, late), ("again", program, thing, early, late))
            # With a smaller budget a closed set is found.
            self.check_closed(program, thing, 1, late - 1)
            self.check_closed(program, thing, 1, 0)

    def test_coming_again_by_the_budgets(self):
        for late in (2000, 20000):
            program = comes_again(late)
            self.assertEqual(endless(program, ONE, late), ("again", program, ONE, late - 1, late))
        program = comes_again(2000)
        self.assertEqual(endless(program, ONE), ("again", program, ONE, 1999, 2000))
        self.assertEqual(endless(comes_again(2001), ONE)[0], "closed")
        self.check_closed(comes_again(2001), ONE, 1)

    def test_the_least_depth(self):
        for depth in (1, 2, 3):
            program = needs_depth(depth)
            self.assertEqual(run(program, NIL).word, "open")
            self.assertIsNone(again(program, NIL))
            self.check_closed(program, NIL, depth)
            for less in range(1, depth):
                self.assertIsNone(closed(program, NIL, less))

    def test_depth_4_is_not_looked_at(self):
        program = needs_depth(4)
        self.assertIsNotNone(closed(program, NIL, 4))
        for budget in (0, 100, 2000):
            self.assertIsNone(endless(program, NIL, budget))

    def test_at_most_300_cut_stands(self):
        # Name 1 grows, so the run doesn't come again; the other deeds do nothing.
        exact = Program((("while", 0, (("pair", 1, 1, 0),) + (("told", 2, NIL),) * 296),))
        self.assertEqual(len(closed(exact, ONE, 1)), 300)
        self.check_closed(exact, ONE, 1)
        beyond = Program((("told", 2, NIL),) + exact.deeds)
        self.assertEqual(len(closed(beyond, ONE, 1, 500)), 301)
        self.assertIsNone(endless(beyond, ONE))

    def test_runs_that_end(self):
        for text in ("", "a = .", "while a [ a = second a ]"):
            for thing in (NIL, ONE, number(50)):
                for budget in (0, 1, 3, 101, 2000, 20000):
                    self.assertIsNone(endless(read_program(text), thing, budget))
        # Just within the budget, and just behind it.
        for steps in (4, 50, 2000):
            for budget in (steps - 1, steps, steps + 1):
                self.assertIsNone(endless(Program(lasting(steps)), ONE, budget))

    def test_a_step_that_is_refused(self):
        # It has a closed set: were the pair made, it would go on for ever.
        self.check_closed(GROWING, NIL, 1)
        # This one would end by some other thing, and so it has none.
        program = read_program("b = pair a a ; b = pair b b ; b = pair b b ; b = pair b b ; b = pair b b")
        self.assertEqual(run(program, left(400)).word, "great")
        self.assertIsNone(endless(program, left(400)))

    def test_by_keyword(self):
        program = read_program("while a [ ]")
        self.assertEqual(endless(program=program, thing=ONE, budget=1), ("again", program, ONE, 0, 1))
        self.assertEqual(endless(budget=0, thing=ONE, program=program)[0], "closed")

    def test_lists_are_the_asker_s_own(self):
        told = endless(GROWING, NIL)
        kept = list(told[4])
        told[4].clear()
        self.assertEqual(endless(GROWING, NIL)[4], kept)


class WholeTest(unittest.TestCase):
    def test_no_run_that_ends_has_a_paper(self):
        chance = source("endless")
        seen = {"again": 0, "closed": 0, "ended": 0, "open": 0}
        for _ in range(600):
            program = draw_program(chance, chance.randint(1, 14), names=chance.randint(1, 5))
            thing = draw_thing(chance, chance.randint(0, 20))
            budget = chance.choice([0, 10, 100, 400])
            paper = endless(program, thing, budget)
            whole = run(program, thing, 20000)
            if whole.word == "ended":
                seen["ended"] += 1
                self.assertIsNone(paper, f"{program} / {thing}")
            elif paper is None:
                seen["open"] += 1
            else:
                seen[paper[0]] += 1
                self.check_paper(program, thing, budget, paper)
        for word in ("again", "closed", "ended"):
            self.assertGreater(seen[word], 20, seen)

    def check_paper(self, program, thing, budget, paper):
        """The paper is of this run, and of the sort that is due."""
        self.assertEqual(paper[1:3], (program, thing))
        told = first_again(program, thing, budget)
        if told is not None:
            self.assertEqual(paper, ("again", program, thing, *told))
            return
        found = [plain_closed(program, thing, depth, 300) for depth in range(1, paper[3] + 1)]
        self.assertEqual(found, [None] * (paper[3] - 1) + [paper[4]])

    def test_the_runner_comes_again_where_the_program_does(self):
        chance = source("endless runner")
        seen = 0
        for _ in range(300):
            program = draw_coded(chance, chance.randint(20, 150), names=chance.randint(1, 10))
            thing = draw_thing(chance, chance.randint(0, 40))
            told = again(program, thing, 30)
            if told is None or max(sum(map(len, stand.names)) for stand in stands(program, thing, 61)) > 300:
                continue
            early, late = told
            most = 250 * (2 * late - early) + 250
            found = again(runner(), Thing(code_of(program), thing), most)
            self.assertIsNotNone(found, f"{program} / {thing}")
            seen += 1
        self.assertGreater(seen, 30)


if __name__ == "__main__":
    unittest.main()
