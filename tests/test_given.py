"""Half of the input given: point 14 of the document."""

import unittest

from judgeslip.codes import code_of, program_of
from judgeslip.given import giver, half_given
from judgeslip.programs import Program
from judgeslip.runs import Run, Stand, run, stands
from judgeslip.things import Thing, number, row
from judgeslip.words import read_program
from drawing import draw_coded, draw_program, draw_thing, source
from shapes import NIL, ONE, left, right, small_things

GIVER = giver()
TOLD = ("told", 0, NIL)


class HalfGivenTest(unittest.TestCase):
    def check_given(self, program, thing, other, budget=300):
        """The run of the one that has it given, beside the whole one's on the pair."""
        told = half_given(program, thing)
        whole = run(program, Thing(thing, other), budget)
        later = run(told, other, budget + 3)
        self.assertEqual(later, Run(whole.word, whole.steps + 3, whole.thing))
        return whole.word

    def test_deeds(self):
        for thing in (NIL, ONE, left(5), left(4000)):
            for deeds in ((), (TOLD,), (("while", 1, (TOLD, ("if", 2, (), (TOLD,)))), ("pair", 9, 1, 0))):
                told = half_given(Program(deeds), thing)
                self.assertIsInstance(told, Program)
                self.assertEqual(told.deeds, (("told", 1, thing), ("pair", 0, 1, 0), ("told", 1, NIL)) + deeds)
                self.assertEqual(half_given(program=Program(deeds), thing=thing), told)

    def test_text(self):
        self.assertEqual(str(half_given(read_program("a = first a"), ONE)),
                         "b = (..) ; a = pair b a ; b = . ; a = first a")

    def test_1000_deeds(self):
        program = Program((TOLD,) * 1000)
        self.assertEqual(half_given(program, ONE).deeds[3:], program.deeds)
        self.assertEqual(run(half_given(program, ONE), ONE), Run("ended", 1003, NIL))

    def test_ended(self):
        for text in ("", "a = first a", "a = second a", "b = first a ; a = second a ; a = same a b", "a = pair a b"):
            for thing in small_things(2):
                for other in small_things(2):
                    self.assertEqual(self.check_given(read_program(text), thing, other), "ended")

    def test_open_and_great(self):
        self.assertEqual(self.check_given(read_program("while a [ ]"), NIL, NIL), "open")
        self.assertEqual(self.check_given(read_program("while a [ a = pair a a ]"), NIL, NIL), "great")
        self.assertEqual(self.check_given(read_program("while a [ a = pair a a ]"), NIL, NIL, 5), "open")

    def test_stands(self):
        program = read_program("b = first a ; while b [ b = second b ; c = pair c b ] ; a = pair c b")
        told = stands(half_given(program, number(3)), ONE)
        whole = stands(program, Thing(number(3), ONE))
        self.assertEqual([(stand.point - 3, stand.names) for stand in told[3:]],
                         [(stand.point, stand.names) for stand in whole])
        self.assertEqual(told[0], Stand(0, (ONE,) + (NIL,) * 9))

    def test_the_pair_itself_too_great(self):
        told = half_given(read_program("a = first a"), left(3000))
        self.assertEqual(run(told, left(1000)), Run("great", 1))
        self.assertEqual(run(told, left(999)), Run("ended", 4, left(3000)))

    def test_drawn_ones(self):
        chance = source("given")
        seen = {"ended": 0, "open": 0, "great": 0}
        for _ in range(300):
            program = draw_program(chance, chance.randint(0, 25), names=chance.randint(2, 10))
            thing, other = draw_thing(chance, chance.randint(0, 60)), draw_thing(chance, chance.randint(0, 60))
            seen[self.check_given(program, thing, other)] += 1
        self.assertTrue(seen["ended"] and seen["open"], seen)

    def test_given_twice(self):
        gather = read_program("b = first a ; a = second a ; c = first a ; a = second a ; b = pair c b ; a = pair b a")
        told = half_given(half_given(gather, number(2)), number(3))
        self.assertEqual(len(told), len(gather) + 6)
        # What was given first is the first half of the whole.
        whole = run(gather, Thing(number(2), Thing(number(3), ONE)))
        self.assertEqual(whole, Run("ended", 6, Thing(Thing(number(3), number(2)), ONE)))
        self.assertEqual(run(told, ONE), Run("ended", 12, whole.thing))

    def test_nothing_handed_in_is_changed(self):
        program, thing = read_program("while a [ a = second a ]"), left(3)
        for _ in range(3):
            half_given(program, thing)
            self.assertEqual((str(program), thing), ("while a [ a = second a ]", left(3)))


class GiverTest(unittest.TestCase):
    def check_told(self, program, thing):
        told = run(GIVER, Thing(code_of(program), thing), 40)
        self.assertEqual(told.word, "ended")
        self.assertEqual(told.thing, code_of(half_given(program, thing)))
        self.assertEqual(program_of(told.thing), half_given(program, thing))

    def test_what_it_is(self):
        self.assertIsInstance(GIVER, Program)
        self.assertEqual(giver(), GIVER)

    def test_told_ones(self):
        for deeds in ((), (TOLD,), (("while", 1, (TOLD,)), ("if", 2, (), (TOLD,))), (("same", 9, 9, 9),)):
            for thing in small_things(3):
                self.check_told(Program(deeds), thing)

    def test_itself(self):
        self.check_told(GIVER, code_of(GIVER))

    def test_the_greatest(self):
        many = Program((TOLD,) * 249)
        for program, thing in ((Program(()), left(1000)), (Program(()), right(1000)), (many, left(4)), (many, NIL),
                               (Program((("told", 0, left(496)),)), right(500)), (Program((TOLD,) * 250), NIL)):
            self.assertLessEqual(len(code_of(program)) + len(thing), 1000)
            self.check_told(program, thing)

    def test_drawn_ones(self):
        chance = source("giver")
        for _ in range(80):
            program = draw_coded(chance, chance.randint(0, 900), told=20)
            thing = draw_thing(chance, chance.randint(0, 1000 - len(code_of(program))))
            self.check_told(program, thing)

    def test_any_thing_may_be_given(self):
        self.check_told(read_program("a = first a"), row([ONE, NIL, left(7)]))


if __name__ == "__main__":
    unittest.main()
