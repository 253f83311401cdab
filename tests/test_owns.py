"""Own code: point 15 of the document."""

import unittest

from judgeslip.codes import code_of, program_of
from judgeslip.errors import TooGreat
from judgeslip.given import half_given
from judgeslip.owns import own_code, own_codes, teller
from judgeslip.programs import Program
from judgeslip.runs import Run, Stand, run, stands, step
from judgeslip.things import Thing, number, row
from judgeslip.words import read_program
from drawing import draw_coded, draw_thing, source
from shapes import NIL, ONE, full, left, right, small_things

TOLD = ("told", 0, NIL)
TEXTS = ("", "a = first a", "a = second a", "while a [ ]", "a = .",
         "b = first a ; a = second a ; a = same a b", "while a [ a = second a ; b = pair b a ] ; a = pair b a",
         "if a [ j = pair a a ] [ ]")
INPUTS = [NIL, ONE, number(2), left(4), left(200), right(200), full(7)]


def ending(own, program):
    """The last deeds of the one, as many as the other has."""
    return own.deeds[len(own.deeds) - len(program.deeds):]


class OwnTest(unittest.TestCase):
    def check_stand(self, own, count, program, first, thing):
        """Behind count steps it stands at the program's first deed, with the pair of the first and the thing."""
        self.assertIs(type(count), int)
        self.assertLessEqual(count, 200)
        told = stands(own, thing, count + 1)
        self.assertEqual(len(told), count + 1)
        self.assertEqual(told[-1], Stand(len(own) - len(program), (Thing(first, thing),) + (NIL,) * 9))
        self.assertEqual(ending(own, program), program.deeds)

    def check_run(self, own, count, program, first, thing):
        """From there on it does what the program does."""
        whole = run(program, Thing(first, thing), 200)
        self.assertEqual(run(own, thing, 200 + count), Run(whole.word, whole.steps + count, whole.thing))

    def check_same_as_the_program(self, own, count, program, first, thing):
        one, other = stands(own, thing, count + 60)[count:], stands(program, Thing(first, thing), 60)
        ahead = len(own) - len(program)
        self.assertEqual([(stand.point - ahead, stand.names) for stand in one],
                         [(stand.point, stand.names) for stand in other])


class OneTest(OwnTest):
    def check_own(self, program, things):
        told = own_code(program)
        self.assertIs(type(told), tuple)
        own, count = told
        self.assertIsInstance(own, Program)
        code = code_of(own)
        self.assertLessEqual(len(code), 2 * len(code_of(program)) + 1000)
        for thing in things:
            self.check_stand(own, count, program, code, thing)
            self.check_run(own, count, program, code, thing)
            self.check_same_as_the_program(own, count, program, code, thing)

    def test_no_deeds(self):
        self.check_own(Program(()), INPUTS)
        own, count = own_code(Program(()))
        self.assertEqual(run(own, ONE), Run("ended", count, Thing(code_of(own), ONE)))

    def test_told_ones(self):
        for text in TEXTS:
            self.check_own(read_program(text), INPUTS)
        self.assertEqual(own_code(program=Program((TOLD,))), own_code(Program((TOLD,))))

    def test_it_is_some_program_with_its_code_given(self):
        for text in TEXTS:
            own, _ = own_code(read_program(text))
            inner = Program(own.deeds[3:])
            self.assertEqual(own, half_given(inner, code_of(inner)))

    def test_one_that_tells_its_own_code(self):
        own, count = own_code(read_program("a = first a"))
        for thing in INPUTS:
            told = run(own, thing)
            self.assertEqual(told, Run("ended", count + 1, code_of(own)))
            self.assertEqual(program_of(told.thing), own)

    def test_one_that_asks_whether_it_is_handed_its_own_code(self):
        own, count = own_code(read_program("b = first a ; c = second a ; a = same b c"))
        for thing in small_things(4):
            self.assertEqual(run(own, thing), Run("ended", count + 3, NIL))
        # Its own code is handed in, whatever its size.
        self.assertEqual(run(own, code_of(own)), Run("ended", count + 3, ONE))
        self.assertEqual(run(own, code_of(own).tail()), Run("ended", count + 3, NIL))

    def test_one_that_counts_its_own_deeds(self):
        program = read_program("a = first a ; b = . ; while a [ a = second a ; b = pair c b ] ; a = pair b c ; a = first a")
        own, _ = own_code(program)
        self.assertEqual(run(own, left(7)).thing, number(len(own.deeds)))

    def test_drawn_ones(self):
        chance = source("own")
        counts = set()
        for _ in range(60):
            program = draw_coded(chance, chance.choice([0, 20, 100, 300]), names=chance.randint(1, 10), told=30)
            self.check_own(program, [NIL, draw_thing(chance, chance.randint(0, 200)), draw_thing(chance, 200)])
            counts.add(own_code(program)[1])
        self.assertLessEqual(max(counts), 200)

    def test_the_greatest(self):
        for deeds in ((TOLD,) * 75, (("told", 0, left(296)),), (("told", 9, right(287)),)):
            self.assertEqual(len(code_of(Program(deeds))), 300)
            self.check_own(Program(deeds), [left(200), right(200)])

    def test_all_eight_floors(self):
        deeds = (TOLD,)
        for _ in range(8):
            deeds = (("while", 0, deeds),)
        self.check_own(Program(deeds), [NIL, left(200)])

    def test_too_great(self):
        for deeds in ((TOLD,) * 1001, (TOLD,) * 1000, (("told", 0, left(4000)),), (("told", 0, left(3996)),),
                      (("pair", 9, 9, 9),) * 200, (TOLD,) * 4000, (TOLD,) * 3990):
            program = Program(deeds)
            with self.assertRaises(TooGreat) as caught:
                own_code(program)
            self.assertEqual(caught.exception.bound, 4000)
            self.assertEqual(program.deeds, deeds)

    def test_up_to_where_its_own_code_is_too_great(self):
        refused = 0
        for pairs in range(1500, 2001, 20):
            program = Program((("told", 0, left(pairs - 4)),))
            try:
                own, count = own_code(program)
            except TooGreat:
                refused += 1
                # By the bound of what it has more than twice the program's.
                self.assertGreater(2 * pairs + 1000, 4000)
            else:
                self.assertEqual(refused, 0)
                self.assertLessEqual(len(code_of(own)), 4000)
                if len(code_of(own)) < 4000:
                    self.check_stand(own, count, program, code_of(own), NIL)
        self.assertGreater(refused, 0)


class SeveralTest(OwnTest):
    def check_owns(self, programs, things):
        kept = list(programs)
        told = own_codes(programs)
        self.assertIs(type(told), list)
        self.assertEqual(programs, kept)
        self.assertEqual(len(told), len(programs))
        codes = row([code_of(own) for own, _ in told])
        for (own, count), program in zip(told, programs):
            self.assertIsInstance(own, Program)
            if len(programs) == 1:
                self.assertLessEqual(len(code_of(own)), 2 * len(code_of(program)) + 1000)
            for thing in things:
                self.check_stand(own, count, program, codes, thing)
                self.check_run(own, count, program, codes, thing)
                self.check_same_as_the_program(own, count, program, codes, thing)

    def test_one(self):
        for text in TEXTS:
            self.check_owns([read_program(text)], INPUTS)
        for deeds in ((TOLD,) * 75, (("told", 0, left(296)),)):
            self.check_owns([Program(deeds)], [left(200), right(200)])

    def test_two(self):
        short = [read_program(text) for text in TEXTS if len(code_of(read_program(text))) <= 40]
        self.assertGreater(len(short), 5)
        for one in short:
            for other in short:
                self.check_owns([one, other], [NIL, left(60)])

    def test_two_that_are_the_same(self):
        program = read_program("a = first a")
        told = own_codes([program, program])
        self.assertEqual(told[0], told[1])
        self.check_owns([program, program], [NIL, ONE, right(60)])

    def test_the_row_is_in_order(self):
        first, second = read_program("a = first a ; a = first a"), read_program("a = first a ; a = second a")
        (one, _), (other, _) = own_codes([first, second])
        self.assertNotEqual(one, other)
        # The first tells its own code, the other one the row behind the first's: its own alone.
        self.assertEqual(run(one, ONE).thing, code_of(one))
        self.assertEqual(run(other, ONE).thing, row([code_of(other)]))

    def test_each_tells_the_other_s_code(self):
        first = read_program("a = first a ; a = second a ; a = first a")
        second = read_program("a = first a ; a = first a")
        (one, _), (other, _) = own_codes(programs=[first, second])
        self.assertEqual(program_of(run(one, NIL).thing), other)
        self.assertEqual(program_of(run(other, NIL).thing), one)

    def test_the_greatest_two(self):
        for deeds in ((TOLD,) * 10, (("told", 0, left(36)),), (("told", 9, right(27)),)):
            self.assertEqual(len(code_of(Program(deeds))), 40)
            self.check_owns([Program(deeds), Program((TOLD,) * 10)], [left(60), right(60)])
            self.check_owns([Program((TOLD,) * 10), Program(deeds)], [left(60), right(60)])

    def test_drawn_ones(self):
        chance = source("owns")
        for _ in range(40):
            one, other = draw_coded(chance, 40, names=4), draw_coded(chance, 40, names=3)
            self.check_owns([one, other], [draw_thing(chance, chance.randint(0, 60))])
            self.check_owns([draw_coded(chance, 300)], [draw_thing(chance, 200)])

    def test_too_great(self):
        small, great = Program((TOLD,)), Program((("told", 0, left(3996)),))
        for programs in ([great], [great, small], [small, great], [great, great], [Program((TOLD,) * 4000)],
                         [Program((TOLD,) * 500)] * 2):
            kept = list(programs)
            with self.assertRaises(TooGreat) as caught:
                own_codes(programs)
            self.assertEqual(caught.exception.bound, 4000)
            self.assertEqual(programs, kept)

    def test_the_lists_are_the_asker_s_own(self):
        programs = [Program((TOLD,))]
        told = own_codes(programs)
        kept = list(told)
        programs.append(Program(()))
        self.assertEqual(told, kept)
        told.clear()
        self.assertEqual(own_codes([Program((TOLD,))]), kept)


class TellerTest(unittest.TestCase):
    def test_it_tells_its_own_code(self):
        own = teller()
        self.assertIsInstance(own, Program)
        self.assertEqual(teller(), own)
        code = code_of(own)
        steps = run(own, NIL, 250).steps
        chance = source("teller")
        for thing in INPUTS + small_things(4) + [draw_thing(chance, at) for at in range(0, 201, 10)]:
            self.assertEqual(run(own, thing, 250), Run("ended", steps, code))
        self.assertEqual(program_of(run(own, ONE).thing), own)

    def test_always_by_the_same_steps(self):
        own = teller()
        whole = [stand.point for stand in stands(own, NIL, 251)]
        for thing in INPUTS:
            self.assertEqual([stand.point for stand in stands(own, thing, 251)], whole)
        self.assertEqual(step(own, stands(own, NIL, len(whole) - 1)[-1]).names[0], code_of(own))


if __name__ == "__main__":
    unittest.main()
