"""The runner: point 13 of the document."""

import unittest

from judgeslip.codes import code_of, program_of
from judgeslip.programs import Program
from judgeslip.runner import runner
from judgeslip.runs import run, stands
from judgeslip.things import Thing, number, row
from judgeslip.words import read_program
from drawing import draw_coded, draw_program, draw_thing, first_again, source, walk
from shapes import NIL, ONE, left, right, small_things

RUNNER = runner()
TOLD = ("told", 0, NIL)
# Makes name 0 stand for all that the ten names stand for.
GATHER = tuple(("pair", 0, 0, name) for name in range(1, 10))
# Gives each of the ten names another thing.
SPREAD = tuple(("told", name, number(name)) for name in range(10))


def greatest(found):
    """How many pairs the ten names have together, at most."""
    return max(sum(len(part) for part in names) for _, names in found)


def in_floors(deeds, floors, kinds=("while",)):
    for at in range(floors):
        kind = kinds[at % len(kinds)]
        deeds = {"while": (("while", 1, deeds),), "if": (("if", 1, deeds, ()),),
                 "else": (("if", 2, (), deeds),)}[kind]
    return deeds


class Running(unittest.TestCase):
    def check_ended(self, program, thing):
        """What the program tells, and within the steps; the run itself is shown to be within the bounds."""
        found, word = walk(program, thing, 20000)
        self.assertEqual(word, "ended")
        self.assertLessEqual(greatest(found), 300)
        code = code_of(program)
        self.assertLessEqual(len(code), 300)
        steps = len(found) - 1
        told = run(RUNNER, Thing(code, thing), 250 * steps + 250)
        self.assertEqual(told.word, "ended", f"{program}, {told}")
        self.assertEqual(told.thing, found[-1][1][0], str(program))


class RunnerTest(Running):
    def test_what_it_is(self):
        self.assertIsInstance(RUNNER, Program)
        self.assertLessEqual(len(RUNNER.used()), 8)
        self.assertEqual(runner(), RUNNER)
        self.assertEqual(program_of(code_of(RUNNER)), RUNNER)

    def test_no_deeds(self):
        for thing in (NIL, ONE, left(300), right(300)):
            self.check_ended(Program(()), thing)

    def test_each_kind(self):
        for text in ("a = (.(..))", "a = .", "a = first a", "a = second a", "b = second a ; a = pair b a",
                     "b = first a ; a = same a b", "a = same a a", "while a [ a = second a ]", "while b [ a = . ]",
                     "if a [ a = first a ] [ a = (..) ]", "if b [ a = . ] [ a = pair a a ]"):
            for thing in small_things(3):
                self.check_ended(read_program(text), thing)

    def test_each_name_at_each_place(self):
        for name in range(10):
            other = (name + 3) % 10
            for deed in (("told", name, left(2)), ("first", name, other), ("first", other, name),
                         ("second", name, other), ("second", other, name), ("second", name, name),
                         ("pair", name, other, 4), ("pair", other, name, 4), ("pair", other, 4, name),
                         ("pair", name, name, name), ("same", name, other, other), ("same", other, name, name),
                         ("same", other, 4, name), ("same", name, name, other)):
                # The code of all this has more than 300 pairs; the names have few, and nothing is too great.
                program = Program(SPREAD + (deed,) + GATHER)
                found, _ = walk(program, NIL, 100)
                told = run(RUNNER, Thing(code_of(program), NIL), 250 * len(found))
                self.assertEqual(told.thing, found[-1][1][0], str(program))

    def test_looks_at_each_name(self):
        for name in range(10):
            for thing in (NIL, number(3)):
                self.check_ended(Program((("told", name, thing), ("while", name, (("second", name, name),)),
                                          ("pair", 0, name, 0))), ONE)
                for deed in (("if", name, (("told", 0, left(2)),), (("told", 0, right(2)),)),
                             ("if", name, (("told", 0, left(2)),), ()), ("if", name, (), (("told", 0, left(2)),))):
                    self.check_ended(Program((("told", name, thing), deed, ("pair", 0, name, 0))), ONE)

    def test_empty_rows(self):
        for text in ("while b [ ]", "if a [ ] [ ]", "if b [ ] [ ]", "if a [ ] [ a = . ]", "if b [ a = . ] [ ]",
                     "while a [ if b [ ] [ ] ; a = second a ; if a [ ] [ ] ]", "if a [ if a [ ] [ ] ] [ ]",
                     "while a [ a = . ; while b [ ] ]", "if a [ while b [ ] ] [ while b [ ] ] ; a = pair a a"):
            for thing in (NIL, ONE, number(3), left(3)):
                self.check_ended(read_program(text), thing)

    def test_eight_floors(self):
        for kinds in (("while",), ("if",), ("else",), ("while", "if"), ("if", "while"), ("else", "while", "if")):
            for floors in range(1, 9):
                inner = (("told", 1, NIL), ("told", 2, ONE), ("pair", 0, 0, 0))
                program = Program((("told", 1, ONE),) + in_floors(inner, floors, kinds) + (("pair", 0, 0, 1),))
                for thing in (NIL, ONE, left(20)):
                    self.check_ended(program, thing)

    def test_every_floor_again_and_again(self):
        # Each while takes one off name 1's row ahead of the one within it.
        deeds = (("pair", 0, 2, 0),)
        for _ in range(8):
            deeds = (("while", 1, (("second", 1, 1),) + deeds),)
        program = Program((("told", 1, number(9)),) + deeds)
        self.check_ended(program, ONE)
        self.check_ended(program, number(30))

    def test_the_dearest_deeds(self):
        for deed in (("same", 9, 9, 9), ("pair", 9, 8, 8), ("second", 9, 9), ("told", 9, ONE)):
            for many in (1, 2, 8):
                self.check_ended(Program((deed,) * many), NIL)
                self.check_ended(Program((deed,) * many), left(298))
        ifs = (("same", 9, 9, 9),)
        for _ in range(8):
            ifs = (("if", 9, (), ifs),)
        self.check_ended(Program(ifs), NIL)

    def test_the_greatest_names(self):
        for text, things in (
                ("a = second a ; a = first a", (left(300), right(300), Thing(left(150), right(149)))),
                ("while a [ a = second a ]", (left(300), right(300), Thing(left(150), right(149)))),
                ("while a [ a = first a ]", (left(300), right(300), Thing(left(150), right(149)))),
                ("j = second a ; a = . ; i = first j ; j = second j ; a = pair j i", (left(150), right(150))),
                ("j = pair a j ; b = same j a ; a = first j", (left(149), right(149))),
                ("e = pair a a ; a = . ; a = first e ; e = second e ; a = pair e b", (left(99), right(99)))):
            for thing in things:
                self.check_ended(read_program(text), thing)
        found, _ = walk(read_program("j = pair a j ; b = same j a ; a = first j"), left(149), 9)
        self.assertEqual(greatest(found), 299)

    def test_the_greatest_codes(self):
        # The rows that wait have, eight times, almost all of the code.
        for kinds in (("while",), ("if",), ("while", "if")):
            inner = (("told", 2, left(30)), ("told", 1, NIL), ("second", 0, 0))
            program = Program((("told", 1, ONE),) + in_floors(inner, 8, kinds))
            left_over = 300 - len(code_of(program))
            inner = (("told", 2, left(30 + left_over)),) + inner[1:]
            program = Program((("told", 1, ONE),) + in_floors(inner, 8, kinds))
            self.assertEqual(len(code_of(program)), 300)
            for thing in (NIL, number(3), right(80)):
                self.check_ended(program, thing)

    def test_a_pair_too_great_on_the_way(self):
        growing = read_program("while a [ a = pair a a ]")
        self.assertEqual(run(growing, ONE).word, "great")
        self.assertEqual(run(RUNNER, Thing(code_of(growing), ONE), 20000).word, "great")

    def test_the_runner_runs_the_runner(self):
        # Its code has more than 300 pairs, but nothing on this way is too great.
        inner = Thing(code_of(read_program("a = second a")), number(2))
        told = run(RUNNER, inner, 500)
        self.assertEqual(told.thing, number(1))
        again = run(RUNNER, Thing(code_of(RUNNER), inner), 250 * len(told) + 250)
        self.assertEqual(again.thing, number(1))


class DrawnTest(Running):
    def test_drawn_ones(self):
        chance = source("runner")
        seen = {"ended": 0, "open": 0, "great": 0}
        for _ in range(250):
            program = draw_coded(chance, 300, names=chance.randint(2, 10), told=chance.randint(0, 20))
            thing = draw_thing(chance, chance.randint(0, 200))
            found, word = walk(program, thing, 60)
            if greatest(found) > 300:
                continue
            seen[word] += 1
            steps = len(found) - 1
            told = run(RUNNER, Thing(code_of(program), thing), 250 * steps + 250)
            if word == "ended":
                self.assertEqual(told.word, "ended", str(program))
                self.assertEqual(told.thing, found[-1][1][0])
            elif run(program, thing, 20000).word != "ended":
                self.assertNotEqual(told.word, "ended", str(program))
        self.assertGreater(seen["ended"], 50)
        self.assertGreater(seen["open"], 20)

    def test_small_programs_with_few_names(self):
        chance = source("runner of few names")
        for _ in range(300):
            program = draw_program(chance, chance.randint(1, 9), names=2, told=2)
            thing = draw_thing(chance, chance.randint(0, 6))
            found, word = walk(program, thing, 70)
            if word == "ended" and greatest(found) <= 300:
                self.check_ended(program, thing)


class AgainTest(unittest.TestCase):
    def check_again(self, program, thing, budget=40):
        early, late = first_again(program, thing, budget)
        most = 250 * (2 * late - early) + 250
        told = first_again(RUNNER, Thing(code_of(program), thing), most)
        self.assertIsNotNone(told, f"{program} {thing} {early} {late}")
        return early, late

    def test_told_ones(self):
        for text, thing, told in (
                ("while a [ ]", ONE, (0, 1)),
                ("a = (..) ; while a [ ]", NIL, (1, 2)),
                ("while a [ b = first a ; b = . ]", ONE, (0, 3)),
                ("while a [ b = pair a b ; b = . ]", ONE, (0, 3)),
                ("while a [ if a [ ] [ ] ]", ONE, (0, 2)),
                ("while a [ while b [ ] ]", ONE, (0, 2)),
                ("while a [ while c [ c = second c ] ; c = (.(..)) ]", ONE, (1, 8))):
            self.assertEqual(self.check_again(read_program(text), thing), told)

    def test_eight_floors(self):
        for kinds in (("while",), ("while", "if"), ("if", "while")):
            deeds = (("told", 1, ONE),) + in_floors((("pair", 3, 0, 0), ("first", 3, 3)), 8, kinds)
            program = Program((("told", 2, NIL),) + deeds + (("while", 1, ()),))
            self.check_again(program, ONE)

    def test_two_that_change_places(self):
        program = read_program("b = (.(..)) ; c = (..) ; while c [ d = pair a b ; a = second d ; b = first d ]")
        self.assertEqual(self.check_again(program, left(3)), (4, 12))

    def test_drawn_ones(self):
        chance = source("again")
        seen = 0
        for _ in range(500):
            program = draw_coded(chance, chance.randint(20, 150), names=chance.randint(1, 10))
            thing = draw_thing(chance, chance.randint(0, 40))
            if first_again(program, thing, 40) is None or greatest(walk(program, thing, 60)[0]) > 300:
                continue
            seen += 1
            self.check_again(program, thing)
        self.assertGreater(seen, 30)


class StayingTest(unittest.TestCase):
    def test_nothing_hangs_on_earlier_runs(self):
        program = read_program("while a [ b = pair a b ; a = second a ] ; a = pair b a")
        handed = Thing(code_of(program), row([ONE, NIL, left(2)]))
        told = run(RUNNER, handed, 5000)
        for _ in range(3):
            self.assertEqual(run(runner(), handed, 5000), told)
        self.assertEqual(len(stands(RUNNER, handed, 300)), 300)


if __name__ == "__main__":
    unittest.main()
