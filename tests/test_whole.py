"""What point 3 of the document promises over the whole program."""

import unittest

from judgeslip.codes import code_of, program_of
from judgeslip.cuts import closed
from judgeslip.desk import Desk
from judgeslip.endless import again, endless
from judgeslip.errors import NoRoom
from judgeslip.given import giver, half_given
from judgeslip.late import late
from judgeslip.looker import holds
from judgeslip.owns import own_code
from judgeslip.programs import Program
from judgeslip.runner import runner
from judgeslip.runs import Run, run, stands
from judgeslip.slips import slip
from judgeslip.small import small
from judgeslip.things import Thing
from judgeslip.twins import twins
from judgeslip.words import read_program
from drawing import draw_coded, draw_thing, source, walk
from shapes import NIL

RUNNER = runner()
# Puts the input's second part in its place: so the deeds behind it are done on that alone.
SECOND_HALF = (("second", 0, 0),)


def greatest(found):
    """How many pairs the ten names have together, at most."""
    return max(sum(len(part) for part in names) for _, names in found)


class OneThingTest(unittest.TestCase):
    """What a program tells of a thing is one thing, by whatever way."""

    def draw_ended(self, name, many):
        """Drawn programs and things, each with its run, straight by the rules, that ends within the bounds of 13."""
        chance = source(name)
        drawn = 0
        while drawn < many:
            program = draw_coded(chance, chance.randint(0, 120), names=chance.randint(2, 10), told=6)
            thing = draw_thing(chance, chance.randint(0, 40))
            found, word = walk(program, thing, 50)
            if word == "ended" and greatest(found) <= 300 and len(program) <= 30:
                drawn += 1
                yield program, thing, Run("ended", len(found) - 1, found[-1][1][0])

    def test_by_its_run_its_text_and_its_code(self):
        for program, thing, told in self.draw_ended("whole runs", 80):
            self.assertEqual(run(program, thing), told)
            self.assertEqual(run(read_program(str(program)), thing), told)
            self.assertEqual(run(program_of(code_of(program)), thing), told)
            self.assertTrue(holds(("run", program, thing, told.thing, told.steps)))
            self.assertIsNone(endless(program, thing))

    def test_with_half_of_its_input_given(self):
        for program, thing, told in self.draw_ended("whole halves", 60):
            later = Program(SECOND_HALF + program.deeds)
            for given in (NIL, thing, code_of(program)):
                half = half_given(later, given)
                self.assertEqual(run(half, thing), Run("ended", told.steps + 4, told.thing))
                if len(code_of(later)) + len(given) <= 1000:
                    code = run(giver(), Thing(code_of(later), given), 40).thing
                    self.assertEqual(program_of(code), half)

    def test_by_the_runner(self):
        for program, thing, told in self.draw_ended("whole runner", 60):
            whole = run(RUNNER, Thing(code_of(program), thing), 250 * told.steps + 250)
            self.assertEqual((whole.word, whole.thing), ("ended", told.thing))

    def test_with_its_own_code_beside(self):
        for program, thing, told in self.draw_ended("whole own", 60):
            own, count = own_code(Program(SECOND_HALF + program.deeds))
            self.assertEqual(run(own, thing), Run("ended", count + 1 + told.steps, told.thing))

    def test_by_the_small_one(self):
        for program, thing, told in self.draw_ended("whole small", 60):
            whole = run(small(program), thing, (told.steps + 1) * (4 * len(program) + 130))
            self.assertEqual((whole.word, whole.thing), ("ended", told.thing))

    def test_from_a_desk(self):
        desk = Desk()
        desk.say("runner r")
        for program, thing, told in self.draw_ended("whole desk", 40):
            for row in (f"program p {program}", f"thing t {thing}", "code c p", "read q c", "small s p", "pair ct c t",
                        f"program l {Program(SECOND_HALF + program.deeds)}", "given g l c", "own o l"):
                self.assertEqual(desk.say(row), "ok")
            self.assertEqual(desk.say("run p t 2000"), str(told))
            self.assertEqual(desk.say("run q t 2000"), str(told))
            self.assertEqual(desk.say("run g t 2000"), str(Run("ended", told.steps + 4, told.thing)))
            for row in ("run s t 20000", "run r ct 20000", "run o t 2000"):
                self.assertEqual(desk.say(row).split(" ")[::2], ["ended", str(told.thing)])
            self.assertEqual(desk.say("endless p t 2000"), "-")


class EndlessTest(unittest.TestCase):
    def test_no_run_is_both(self):
        chance = source("whole endless")
        seen = {"ended": 0, "endless": 0, "neither": 0}
        for _ in range(250):
            program = draw_coded(chance, chance.randint(5, 100), names=chance.randint(1, 5))
            thing = draw_thing(chance, chance.randint(0, 20))
            paper, whole = endless(program, thing, 200), run(program, thing, 20000)
            word = "ended" if whole.word == "ended" else "neither" if paper is None else "endless"
            seen[word] += 1
            if whole.word == "ended":
                self.assertIsNone(paper)
                self.assertIsNone(again(program, thing, 20000))
                for depth in (1, 2, 3, 4):
                    self.assertIsNone(closed(program, thing, depth))
            elif paper is not None:
                self.assertTrue(holds(paper))
                self.check_others(program, thing, paper)
        self.assertGreater(seen["ended"], 50, seen)
        self.assertGreater(seen["endless"], 20, seen)

    def check_others(self, program, thing, paper):
        """What runs on for ever runs on by the runner, with its own code and by the small one, too."""
        self.assertNotEqual(run(RUNNER, Thing(code_of(program), thing), 5000).word, "ended")
        own, _ = own_code(Program(SECOND_HALF + program.deeds))
        self.assertNotEqual(run(own, thing, 5000).word, "ended")
        if len(program) <= 30:
            self.assertNotEqual(run(small(program), thing, 5000).word, "ended")
        self.assertIn(paper[0], ("again", "closed"))


class JudgeTest(unittest.TestCase):
    def test_every_judge_of_ending(self):
        chance = source("whole judges")
        for _ in range(120):
            judge = draw_coded(chance, chance.randint(0, 150), names=chance.randint(1, 10), told=10)
            thing = draw_thing(chance, chance.randint(0, 200))
            word, made, paper = slip(judge, thing)
            said = run(judge, Thing(code_of(made), thing), 4000)
            whole = run(made, thing, 20000)
            if word == "ends":
                self.assertTrue(said.thing)
                self.assertNotEqual(whole.word, "ended")
            elif word == "doesn't":
                self.assertEqual((said.thing, whole.word), (NIL, "ended"))
            else:
                self.assertNotEqual(said.word, "ended")
            self.assertIs(holds(("slip", judge, thing, made, word, paper)), word != "open")

    def test_every_judge_of_doing(self):
        chance = source("whole doings")
        seen = 0
        for _ in range(200):
            judge, one, other = (draw_coded(chance, 90, names=8, told=10) for _ in range(3))
            # Such judges of the first deed's kind often hold two unlike.
            judge = Program((("first", 0, 0), ("first", 0, 0)) + judge.deeds[:2])
            try:
                word, made, like, count = twins(judge, one, other)
            except NoRoom:
                continue
            if word != "twins":
                self.assertEqual((made, like, count), (None, None, 0))
                continue
            seen += 1
            self.assertTrue(holds(("twins", judge, made, like, count)))
            for thing in (NIL, draw_thing(chance, 200)):
                whole = run(like, thing, 200)
                self.assertEqual(run(made, thing, 200 + count), Run(whole.word, whole.steps + count, whole.thing))
        self.assertGreater(seen, 5)

    def test_every_bounder(self):
        chance = source("whole bounders")
        for _ in range(120):
            bounder = draw_coded(chance, chance.randint(0, 150), names=chance.randint(1, 10), told=10)
            word, made, paper = late(bounder)
            self.assertEqual(len(made), len(bounder) + 3)
            if word == "open":
                self.assertIsNone(paper)
            else:
                self.assertTrue(holds(paper))
                self.assertEqual(run(made, NIL, 20000).word == "ended", word == "late")

    def test_the_same_each_time(self):
        judge, one, other = map(read_program, ("a = second a", "a = . ; a = .", "a = ."))
        for _ in range(3):
            self.assertEqual(slip(judge, NIL), slip(judge, NIL))
            self.assertEqual(twins(judge, one, other), twins(judge, one, other))
            self.assertEqual(small(one), small(one))
            self.assertEqual(late(one), late(one))
        self.assertEqual(len(stands(RUNNER, NIL, 3)), 3)


if __name__ == "__main__":
    unittest.main()
