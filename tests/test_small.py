"""One loop and three names: point 22 of the document."""

import unittest

from judgeslip.codes import code_of
from judgeslip.endless import again
from judgeslip.errors import TooGreat
from judgeslip.programs import Program
from judgeslip.runs import run, stands
from judgeslip.small import small
from judgeslip.things import Thing, number, parts
from judgeslip.words import read_program
from drawing import draw_deeds, draw_program, draw_thing, lasting, rows_of, source, walk
from shapes import NIL, ONE, full, left, right, small_things

GATHER = tuple(("pair", 0, 0, name) for name in range(1, 10))
SPREAD = tuple(("told", name, number(name)) for name in range(10))
TOLD = ("told", 0, NIL)


def whiles(row):
    """How many whiles stand in a row, those within rows too."""
    return sum((deed[0] == "while") + sum(whiles(part) for part in rows_of(deed)) for deed in row)


def greatest(found):
    """How many pairs the ten names have together, at most."""
    return max(sum(len(part) for part in names) for _, names in found)


def bound(program, steps):
    return (steps + 1) * (4 * len(program) + 130)


class Smalling(unittest.TestCase):
    def check_form(self, program):
        told = small(program)
        self.assertIsInstance(told, Program)
        self.assertTrue(set(told.used()) <= {0, 1, 2}, told.used())
        self.assertEqual(whiles(told.deeds), 1)
        self.assertLessEqual(len(told), 4000)
        self.assertEqual(small(program), told)
        return told

    def check_small(self, program, things, most=300):
        """It tells what the program tells, within the steps; tells how many runs ended."""
        told, ended = self.check_form(program), 0
        for thing in things:
            found, word = walk(program, thing, most)
            steps = len(found) - 1
            if greatest(found) > 300:
                continue
            whole = run(told, thing, bound(program, steps))
            if word == "ended":
                ended += 1
                self.assertEqual((whole.word, whole.thing), ("ended", found[-1][1][0]), f"{program} / {thing}")
            else:
                self.assertNotEqual(whole.word, "ended", f"{program} / {thing}")
        return ended


class SmallTest(Smalling):
    def test_no_deeds(self):
        self.assertEqual(self.check_small(Program(()), [NIL, ONE, number(5), left(300), right(300)]), 5)

    def test_each_kind(self):
        things = small_things(3) + [left(60), right(60)]
        for text in ("a = (.(..))", "a = .", "a = first a", "a = second a", "b = second a ; a = pair b a",
                     "b = first a ; a = same a b", "a = same a a", "while a [ a = second a ]", "while b [ a = . ]",
                     "if a [ a = first a ] [ a = (..) ]", "if b [ a = . ] [ a = pair a a ]", "if a [ ] [ ]",
                     "if a [ ] [ a = (..) ]", "if a [ a = . ] [ ]", "while b [ ]", "if a [ a = . ] [ ] ; a = pair a a"):
            self.assertEqual(self.check_small(read_program(text), things), len(things))

    def test_each_name_at_each_place(self):
        for name in range(10):
            other = (name + 3) % 10
            for deed in (("told", name, left(2)), ("first", name, other), ("first", other, name),
                         ("second", name, other), ("second", other, name), ("second", name, name),
                         ("pair", name, other, 4), ("pair", other, name, 4), ("pair", other, 4, name),
                         ("pair", name, name, name), ("same", name, other, other), ("same", other, name, name),
                         ("same", other, 4, name), ("same", name, name, other)):
                program = Program(SPREAD + (deed,) + GATHER)
                self.assertEqual(self.check_small(program, [ONE]), 1)

    def test_looks_at_each_name(self):
        for name in range(10):
            for thing in (NIL, number(3)):
                begin = SPREAD + (("told", name, thing),)
                for deed in (("while", name, (("second", name, name),)),
                             ("if", name, (("told", 0, left(2)),), (("told", 0, right(2)),)),
                             ("if", name, (("told", 0, left(2)),), ()), ("if", name, (), (("told", 0, left(2)),))):
                    self.assertEqual(self.check_small(Program(begin + (deed,) + GATHER[:7]), [ONE]), 1)

    def test_every_number_of_deeds(self):
        chance = source("so many deeds")
        for many in range(31):
            # Each deed at each place is found: what they make is told in order.
            program = Program(tuple(("pair", 0, 0, at % 2) for at in range(min(many, 7))) + tuple(
                ("pair", 1, 1, 2) for _ in range(many - min(many, 7))))
            self.assertEqual(len(program), many)
            self.assertEqual(self.check_small(program, [NIL]), 1)
            for _ in range(4):
                self.check_small(draw_program(chance, many), [NIL, ONE, draw_thing(chance, 30)])

    def test_thirty_of_the_dearest(self):
        for deed in (("same", 9, 9, 9), ("pair", 9, 8, 8), ("second", 9, 9), ("told", 9, NIL), ("if", 9, (), ())):
            program = Program((deed,) * 30)
            if deed[0] == "pair":
                program = Program((deed, ("told", 9, NIL)) * 15)
            self.assertEqual(self.check_small(program, [NIL, left(299), right(299)]), 3)
        for many in (1, 2, 3, 8):
            self.assertEqual(self.check_small(Program((("same", 9, 9, 9),) * many), [NIL, left(290)]), 2)

    def test_more_than_thirty(self):
        for deeds in ((TOLD,) * 31, (TOLD,) * 200, (TOLD,) * 4000, (("while", 0, (TOLD,) * 30),),
                      (("if", 0, (TOLD,) * 15, (TOLD,) * 15),)):
            program = Program(deeds)
            with self.assertRaises(TooGreat) as caught:
                small(program)
            self.assertEqual(caught.exception.bound, 30)
            self.assertEqual(program.deeds, deeds)
        for deeds in ((TOLD,) * 30, (("while", 0, (TOLD,) * 29),), (("if", 0, (TOLD,) * 15, (TOLD,) * 14),)):
            self.check_small(Program(deeds), [NIL, ONE])

    def test_eight_floors(self):
        for kind in ("while", "if", "else"):
            deeds = (("told", 1, NIL), ("told", 2, ONE), ("pair", 0, 0, 0))
            for _ in range(8):
                deeds = {"while": (("while", 1, deeds),), "if": (("if", 1, deeds, ()),),
                         "else": (("if", 2, (), deeds),)}[kind]
            program = Program((("told", 1, ONE),) + deeds + (("pair", 0, 0, 1),))
            self.assertEqual(self.check_small(program, [NIL, ONE, left(20)]), 3)
        # Each floor is gone through again and again.
        deeds = (("pair", 0, 2, 0),)
        for _ in range(8):
            deeds = (("while", 1, (("second", 1, 1),) + deeds),)
        self.assertEqual(self.check_small(Program((("told", 1, number(9)),) + deeds), [ONE, number(30)]), 2)

    def test_thirty_deeds_in_eight_floors(self):
        deeds = ()
        for floor in range(8):
            deeds = (("while", floor % 3, (("second", floor % 3, floor % 3),) + deeds + (("pair", 9, 9, 0),)),)
        program = Program((("told", 1, number(3)), ("told", 2, number(2))) + deeds + (TOLD,) * 4)
        self.assertEqual(len(program), 30)
        self.assertEqual(self.check_small(program, [NIL, number(3), number(6)]), 3)

    def test_names_of_300_pairs_together(self):
        for text, things in (
                ("a = second a ; a = first a", (left(300), right(300), Thing(left(150), right(149)))),
                ("while a [ a = second a ]", (right(140), left(300))),
                ("j = second a ; a = . ; i = first j ; j = second j ; a = pair j i", (left(150), right(150))),
                ("j = pair a j ; b = same j a ; a = first j", (left(149), right(149))),
                ("e = pair a a ; a = . ; a = first e ; e = second e ; a = pair e b", (left(99), right(99)))):
            self.assertEqual(self.check_small(read_program(text), things), len(things))
        for name in range(10):
            # A told thing of 200 pairs beside an input of 100.
            program = Program((("told", name, left(200)), ("second", 0, 0), ("first", name, name)))
            self.assertEqual(self.check_small(program, [left(100), right(100)]), 2)

    def test_runs_that_come_again(self):
        swapping = "b = (.(..)) ; c = (..) ; while c [ d = pair a b ; a = second d ; b = first d ]"
        for text, thing in (("while a [ ]", ONE), ("a = (..) ; while a [ ]", NIL),
                            ("while a [ b = first a ; b = . ]", ONE), (swapping, left(3))):
            program = read_program(text)
            self.assertIsNotNone(again(program, thing))
            self.assertEqual(self.check_small(program, [thing]), 0)
            self.assertEqual(run(small(program), thing, 20000).word, "open")
            self.assertIsNotNone(again(small(program), thing, 20000))

    def test_runs_that_are_refused(self):
        for text, thing in (("a = (..) ; while a [ a = pair a a ]", NIL), ("a = pair a a", left(2000)),
                            ("b = pair a c", left(4000)), ("b = pair a a ; a = .", left(2500)),
                            ("b = pair a a ; b = pair b b ; b = pair b b ; b = pair b b ; a = .", left(400))):
            program = read_program(text)
            self.assertEqual(run(program, thing).word, "great")
            self.assertNotEqual(run(small(program), thing, 20000).word, "ended")

    def test_names_beyond_three_hundred_pairs(self):
        # More is not promised, but nothing else is told of such.
        program = read_program("b = second a ; a = pair b b")
        for thing in (left(1000), right(1000)):
            self.assertEqual(run(small(program), thing).thing, run(program, thing).thing)


class LoopTest(Smalling):
    def test_what_name_1_stands_for(self):
        """At each look of the loop name 1 is the pair of the point's number and the row of what the ten names are."""
        chance = source("small loop")
        for _ in range(60):
            program = draw_program(chance, chance.randint(0, 30), names=chance.randint(2, 10))
            thing = draw_thing(chance, chance.randint(0, 20))
            found, _ = walk(program, thing, 25)
            told = small(program)
            looks = [at for at, (deed, _) in enumerate(told.plan) if deed[0] == "while"]
            seen = [stand.names[1] for stand in stands(told, thing, bound(program, len(found)))
                    if stand.point == looks[0]]
            for part, (point, names) in zip(seen, found):
                self.assertEqual(part.head(), number(point))
                self.assertEqual(parts(part.tail()), list(names))
            self.assertGreaterEqual(len(seen), len(found))

    def test_a_code_s_small_program(self):
        # What is told is a program like others, and may be handed in where its code isn't too great.
        program = read_program("a = second a")
        told = small(program)
        self.assertLessEqual(len(code_of(told)), 4000)


class DrawnTest(Smalling):
    def test_drawn_ones(self):
        chance = source("small")
        ended = 0
        for _ in range(250):
            program = draw_program(chance, chance.randint(0, 30), names=chance.randint(1, 10),
                                   told=chance.choice([3, 200]))
            ended += self.check_small(program, [NIL, draw_thing(chance, chance.randint(0, 90))], 120)
        self.assertGreater(ended, 200)

    def test_thirty_deeds(self):
        chance = source("small thirty")
        for _ in range(60):
            program = Program(draw_deeds(chance, 30, names=10))
            self.assertEqual(len(program), 30)
            self.check_small(program, [NIL, draw_thing(chance, 20)], 120)

    def test_many_steps(self):
        program = Program(lasting(101))
        self.assertLessEqual(len(program), 30)
        self.assertEqual(self.check_small(program, [NIL, ONE]), 2)

    def test_by_keyword(self):
        program = read_program("a = first a")
        self.assertEqual(small(program=program), small(program))


if __name__ == "__main__":
    unittest.main()
