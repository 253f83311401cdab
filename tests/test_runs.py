"""Runs: points 9 and 10 of the document."""

import unittest

from judgeslip.errors import NoStep, TooGreat
from judgeslip.programs import Program
from judgeslip.runs import Run, Stand, begin, run, stands, step
from judgeslip.things import Thing, number
from drawing import draw_program, draw_thing, source, walk
from shapes import NIL, ONE, full, left, right, small_things

TOLD = ("told", 0, NIL)
FOR_EVER = Program((("told", 0, ONE), ("while", 0, ())))
# Doubles what name 0 stands for, pairs and one: 4,000 pairs are passed by the twelfth pair.
GROWING = Program((("told", 0, ONE), ("while", 0, (("pair", 0, 0, 0),))))


def names(**told):
    """What the ten names stand for: nil, but where another thing is told."""
    return tuple(told.get(letter, NIL) for letter in "abcdefghij")


def points(program, thing, many=100):
    return [stand.point for stand in stands(program, thing, many)]


class StandTest(unittest.TestCase):
    def test_by_place_and_by_keyword(self):
        stand = Stand(3, names(a=ONE))
        self.assertEqual((stand.point, stand.names), (3, names(a=ONE)))
        self.assertEqual(Stand(point=3, names=names(a=ONE)), stand)
        self.assertEqual(Stand(names=names(a=ONE), point=3), stand)

    def test_same(self):
        told = [(0, names()), (1, names()), (0, names(a=ONE)), (0, names(j=ONE)), (1, names(a=left(4000))),
                (1, names(a=right(4000)))]
        for at, one in enumerate(told):
            for place, other in enumerate(told):
                self.assertIs(Stand(*one) == Stand(*other), at == place)
                self.assertIs(Stand(*one) != Stand(*other), at != place)
        self.assertEqual(Stand(1, names(a=left(4000))), Stand(1, names(a=left(4000))))

    def test_nothing_of_another_kind_is_the_same(self):
        class Alike:
            point = 0
            names = names()

        stand = Stand(0, names())
        for stranger in (None, 0, True, False, "", (0, names()), [0, names()], names(), NIL, Program(()),
                         Run("open", 0), Alike(), object()):
            self.assertIs(stand == stranger, False)
            self.assertIs(stranger == stand, False)
            self.assertIs(stand != stranger, True)
            self.assertIs(stranger != stand, True)

    def test_begin(self):
        for program in (Program(()), Program((TOLD,)), FOR_EVER):
            for thing in (NIL, ONE, left(400)):
                stand = begin(program, thing)
                self.assertIsInstance(stand, Stand)
                self.assertEqual((stand.point, stand.names), (0, names(a=thing)))
                self.assertIs(type(stand.names), tuple)
                self.assertEqual(begin(program=program, thing=thing), stand)


class StepTest(unittest.TestCase):
    def check_step(self, deeds, before, after, point=0, to=1):
        stand = Stand(point, before)
        told = step(Program(deeds), stand)
        self.assertIsInstance(told, Stand)
        self.assertIs(type(told.names), tuple)
        self.assertEqual((told.point, told.names), (to, after))
        self.assertEqual((stand.point, stand.names), (point, before))

    def test_told(self):
        self.check_step((("told", 3, ONE),), names(a=NIL), names(d=ONE))
        self.check_step((("told", 0, NIL),), names(a=ONE), names())
        self.check_step((("told", 0, left(4000)),), names(a=ONE), names(a=left(4000)))

    def test_first_and_second(self):
        pair = Thing(number(2), ONE)
        for thing in small_things(3) + [pair]:
            self.check_step((("first", 1, 2),), names(c=thing), names(b=thing.head(), c=thing))
            self.check_step((("second", 1, 2),), names(c=thing), names(b=thing.tail(), c=thing))
            self.check_step((("first", 2, 2),), names(c=thing), names(c=thing.head()))
            self.check_step((("second", 9, 9),), names(j=thing), names(j=thing.tail()))

    def test_pair(self):
        for one in small_things(2):
            for other in small_things(2):
                self.check_step((("pair", 4, 5, 6),), names(f=one, g=other),
                                names(e=Thing(one, other), f=one, g=other))
                self.check_step((("pair", 5, 6, 5),), names(f=one, g=other), names(f=Thing(other, one), g=other))
        self.check_step((("pair", 5, 5, 5),), names(f=ONE), names(f=Thing(ONE, ONE)))

    def test_same(self):
        for one in small_things(3):
            for other in small_things(3):
                yes = ONE if str(one) == str(other) else NIL
                self.check_step((("same", 4, 5, 6),), names(f=one, g=other), names(e=yes, f=one, g=other))
                self.check_step((("same", 5, 5, 6),), names(f=one, g=other), names(f=yes, g=other))
        self.check_step((("same", 4, 5, 5),), names(f=left(9)), names(e=ONE, f=left(9)))

    def test_same_of_great_ones(self):
        self.check_step((("same", 0, 1, 2),), names(b=left(4000), c=left(4000)),
                        names(a=ONE, b=left(4000), c=left(4000)))
        self.check_step((("same", 0, 1, 2),), names(b=left(3999, ONE), c=Thing(NIL, left(3999))),
                        names(b=left(3999, ONE), c=Thing(NIL, left(3999))))

    def test_each_name_is_given_and_taken(self):
        for at, letter in enumerate("abcdefghij"):
            self.check_step((("told", at, ONE),), names(), names(**{letter: ONE}))
            other = "abcdefghij"[at - 1]
            before = names(**{letter: number(2), other: number(3)})
            self.check_step((("first", (at - 1) % 10, at),), before, names(**{letter: number(2)}))
            self.check_step((("pair", at, at, (at - 1) % 10),), before,
                            names(**{letter: Thing(number(2), number(3)), other: number(3)}))

    def test_looks_change_no_name(self):
        for thing, to in ((ONE, 1), (left(4000), 1), (NIL, 2)):
            self.check_step((("while", 2, (TOLD,)),), names(c=thing), names(c=thing), to=to)
            self.check_step((("if", 2, (TOLD,), (TOLD,)),), names(c=thing), names(c=thing), to=to)

    def test_a_while_with_an_empty_row(self):
        deeds = (TOLD, ("while", 1, ()), TOLD)
        self.check_step(deeds, names(b=ONE), names(b=ONE), point=1, to=1)
        self.check_step(deeds, names(), names(), point=1, to=2)
        self.check_step((("while", 1, ()),), names(), names(), to=1)

    def test_an_if_with_empty_rows(self):
        for thing in (NIL, ONE):
            self.check_step((("if", 1, (), ()), TOLD), names(b=thing), names(b=thing), to=1)
        self.check_step((("if", 1, (), (TOLD,)), TOLD), names(b=ONE), names(b=ONE), to=2)
        self.check_step((("if", 1, (), (TOLD,)), TOLD), names(), names(), to=1)
        self.check_step((("if", 1, (TOLD, TOLD), ()), TOLD), names(), names(), to=3)
        self.check_step((("if", 1, (TOLD, TOLD), (TOLD,)), TOLD), names(), names(), to=3)
        self.check_step((("if", 1, (TOLD, TOLD), ()),), names(), names(), to=3)

    def test_where_it_goes_on_behind_rows(self):
        deeds = (("while", 1, (TOLD, ("if", 2, (TOLD,), (TOLD, TOLD)))), TOLD)
        # 0 while, 1 told, 2 if, 3 told (the first row), 4 and 5 told (the other one), 6 told
        for point, thing, to in ((0, ONE, 1), (0, NIL, 6), (1, ONE, 2), (3, ONE, 0), (4, ONE, 5), (5, ONE, 0),
                                 (6, ONE, 7)):
            self.check_step(deeds, names(b=thing), names(b=thing), point=point, to=to)
        self.check_step(deeds, names(c=ONE), names(c=ONE), point=2, to=3)
        self.check_step(deeds, names(), names(), point=2, to=4)

    def test_where_it_goes_on_behind_empty_rows_that_stand_last(self):
        deeds = (("while", 1, (("if", 2, (), ()),)), ("if", 3, (("if", 4, (), (TOLD,)),), ()))
        # 0 while, 1 if, 2 if, 3 if within, 4 told, 5 the end
        for thing in (NIL, ONE):
            self.check_step(deeds, names(c=thing), names(c=thing), point=1, to=0)
        self.check_step(deeds, names(d=ONE), names(d=ONE), point=2, to=3)
        self.check_step(deeds, names(), names(), point=2, to=5)
        self.check_step(deeds, names(e=ONE), names(e=ONE), point=3, to=5)
        self.check_step(deeds, names(), names(), point=3, to=4)
        self.check_step(deeds, names(), names(), point=4, to=5)

    def test_whiles_within_whiles(self):
        deeds = (("while", 0, (("while", 1, (("while", 2, ()),)),)),)
        self.check_step(deeds, names(a=ONE), names(a=ONE), point=0, to=1)
        self.check_step(deeds, names(), names(), point=0, to=3)
        self.check_step(deeds, names(b=ONE), names(b=ONE), point=1, to=2)
        self.check_step(deeds, names(), names(), point=1, to=0)
        self.check_step(deeds, names(c=ONE), names(c=ONE), point=2, to=2)
        self.check_step(deeds, names(), names(), point=2, to=1)

    def test_one_row_that_stands_twice(self):
        inner = (TOLD, ("while", 1, (TOLD,)))
        deeds = (("if", 2, inner, inner), TOLD)
        self.assertEqual(points(Program(deeds), NIL), [0, 4, 5, 7, 8])
        told = Program((("told", 2, ONE),) + deeds)
        self.assertEqual(points(told, NIL), [0, 1, 2, 3, 8, 9])

    def test_at_the_end(self):
        for deeds, many in (((), 0), ((TOLD,), 1), ((("while", 0, (TOLD, TOLD)),), 3)):
            with self.assertRaises(NoStep) as caught:
                step(Program(deeds), Stand(many, names()))
            self.assertEqual(caught.exception.point, many)
            with self.assertRaises(NoStep) as caught:
                step(program=Program(deeds), stand=Stand(many, names(a=ONE)))
            self.assertEqual(caught.exception.point, many)

    def test_a_pair_too_great(self):
        program = Program((TOLD, ("pair", 0, 1, 2)))
        for one, other in ((left(4000), NIL), (NIL, left(4000)), (left(2000), right(2000)), (full(11), left(1953))):
            stand = Stand(1, names(b=one, c=other))
            with self.assertRaises(TooGreat) as caught:
                step(program, stand)
            self.assertEqual(caught.exception.bound, 4000)
            self.assertEqual(stand, Stand(1, names(b=one, c=other)))
        self.check_step((TOLD, ("pair", 0, 1, 2)), names(b=left(2000), c=right(1999)),
                        names(a=Thing(left(2000), right(1999)), b=left(2000), c=right(1999)), point=1, to=2)


class StandsTest(unittest.TestCase):
    def test_up_to_the_end(self):
        program = Program((("first", 1, 0), ("pair", 0, 1, 0)))
        told = stands(program, ONE)
        self.assertIs(type(told), list)
        self.assertEqual(told, [Stand(0, names(a=ONE)), Stand(1, names(a=ONE)), Stand(2, names(a=Thing(NIL, ONE)))])
        self.assertEqual(stands(Program(()), ONE), [Stand(0, names(a=ONE))])

    def test_as_many_as_asked(self):
        for many in (1, 2, 3, 100, 299, 300):
            told = stands(FOR_EVER, NIL, many)
            self.assertEqual(len(told), many)
            self.assertEqual(told[0], Stand(0, names()))
            self.assertEqual(told[1:], [Stand(1, names(a=ONE))] * (many - 1))
        self.assertEqual(len(stands(FOR_EVER, NIL)), 100)
        self.assertEqual(len(stands(program=FOR_EVER, thing=NIL, many=7)), 7)
        program = Program((TOLD,) * 5)
        for many, told in ((1, 1), (5, 5), (6, 6), (7, 6), (300, 6)):
            self.assertEqual(len(stands(program, NIL, many)), told)

    def test_up_to_a_step_that_is_refused(self):
        told = stands(GROWING, NIL)
        self.assertEqual(told[-1].point, 2)
        self.assertEqual(len(told[-1].names[0]), 2047)
        self.assertEqual(len(told), 23)
        with self.assertRaises(TooGreat):
            step(GROWING, told[-1])
        self.assertEqual(stands(GROWING, NIL, 22), told[:22])

    def test_the_list_is_new_each_time(self):
        told = stands(FOR_EVER, NIL, 5)
        told.clear()
        self.assertEqual(len(stands(FOR_EVER, NIL, 5)), 5)

    def test_steps_lead_from_each_to_the_next(self):
        chance = source("steps")
        for _ in range(40):
            program = draw_program(chance, chance.randint(1, 20))
            told = stands(program, draw_thing(chance, 12), 60)
            for one, other in zip(told, told[1:]):
                self.assertEqual(step(program, one), other)

    def test_drawn_ones_against_a_plain_walk(self):
        chance = source("walk")
        seen = {"ended": 0, "open": 0, "great": 0}
        for _ in range(400):
            program = draw_program(chance, chance.randint(0, 30), names=chance.randint(2, 10))
            thing = draw_thing(chance, chance.randint(0, 25))
            found, word = walk(program, thing, 300)
            told = stands(program, thing, 300)
            self.assertEqual([(stand.point, stand.names) for stand in told], found)
            seen[word] += 1
            if word == "open":
                self.assertEqual(run(program, thing, 299 - 1), Run("open", 298))
            else:
                ended = found[-1][1][0] if word == "ended" else None
                self.assertEqual(run(program, thing, 300), Run(word, len(found) - 1, ended))
        self.assertTrue(all(seen.values()), seen)


class RunTest(unittest.TestCase):
    def test_by_place_and_by_keyword(self):
        told = Run("ended", 3, ONE)
        self.assertEqual((told.word, told.steps, told.thing), ("ended", 3, ONE))
        self.assertEqual(Run(word="ended", steps=3, thing=ONE), told)
        self.assertEqual(Run(thing=ONE, steps=3, word="ended"), told)
        self.assertIsNone(Run("open", 5).thing)
        self.assertEqual(Run("open", 5), Run("open", 5, None))

    def test_same(self):
        told = [("ended", 3, ONE), ("ended", 3, NIL), ("ended", 4, ONE), ("open", 3), ("great", 3), ("open", 4),
                ("ended", 3, left(4000)), ("ended", 3, right(4000))]
        for at, one in enumerate(told):
            for place, other in enumerate(told):
                self.assertIs(Run(*one) == Run(*other), at == place)
                self.assertIs(Run(*one) != Run(*other), at != place)

    def test_nothing_of_another_kind_is_the_same(self):
        class Alike:
            word = "open"
            steps = 5
            thing = None

        told = Run("open", 5)
        for stranger in (None, 5, True, "open 5", ("open", 5), ("open", 5, None), [], NIL, Stand(5, names()), Alike(),
                         Program(()), object()):
            self.assertIs(told == stranger, False)
            self.assertIs(stranger == told, False)
            self.assertIs(told != stranger, True)
            self.assertIs(stranger != told, True)

    def test_length_and_texts(self):
        for told, text in ((Run("ended", 12, ONE), "ended 12 (..)"), (Run("ended", 0, NIL), "ended 0 ."),
                           (Run("open", 2000), "open 2000"), (Run("great", 7), "great 7"), (Run("open", 0), "open 0"),
                           (Run("ended", 20000, Thing(NIL, ONE)), "ended 20000 (.(..))")):
            self.assertEqual(str(told), text)
            self.assertEqual(repr(told), "Run " + text)
            self.assertEqual(len(told), told.steps)

    def test_the_methods_stand_in_the_classes_themselves(self):
        for name in ("__len__", "__eq__", "__str__", "__repr__"):
            self.assertIn(name, vars(Run))
        self.assertIn("__eq__", vars(Stand))

    def test_ended_by_just_the_budget(self):
        for many in (1, 2, 10, 200):
            program = Program((("pair", 0, 0, 1),) * many)
            told = left(many, ONE)
            self.assertEqual(run(program, ONE, many), Run("ended", many, told))
            self.assertEqual(run(program, ONE, many + 1), Run("ended", many, told))
            self.assertEqual(run(program, ONE, many - 1), Run("open", many - 1))
            self.assertEqual(run(program, ONE, 0), Run("open", 0))

    def test_no_deeds(self):
        for budget in (0, 1, 20000):
            self.assertEqual(run(Program(()), ONE, budget), Run("ended", 0, ONE))
        self.assertEqual(run(Program(()), NIL), Run("ended", 0, NIL))

    def test_a_refused_step(self):
        self.assertEqual(run(GROWING, NIL), Run("great", 22))
        self.assertEqual(run(GROWING, NIL, 23), Run("great", 22))
        self.assertEqual(run(GROWING, NIL, 22), Run("open", 22))
        self.assertEqual(run(GROWING, NIL, 21), Run("open", 21))
        program = Program((("pair", 0, 0, 0),))
        self.assertEqual(run(program, left(2000), 0), Run("open", 0))
        self.assertEqual(run(program, left(2000), 1), Run("great", 0))
        self.assertEqual(run(program, left(1999), 1), Run("ended", 1, Thing(left(1999), left(1999))))

    def test_defaults_and_keywords(self):
        self.assertEqual(run(FOR_EVER, NIL), Run("open", 2000))
        self.assertEqual(run(program=FOR_EVER, thing=NIL, budget=30), Run("open", 30))

    def test_20000_steps(self):
        self.assertEqual(run(FOR_EVER, NIL, 20000), Run("open", 20000))
        # Each thing of the row costs two steps, and there is one look at the end.
        counting = Program((("while", 0, (("second", 0, 0),)),))
        self.assertEqual(run(counting, right(4000), 20000), Run("ended", 8001, NIL))
        twice = Program((("pair", 1, 0, 0), ("while", 1, (("second", 1, 1), ("second", 2, 0))), ("second", 0, 0)))
        self.assertEqual(run(twice, right(1999), 20000), Run("ended", 1 + 3 * 2000 + 1 + 1, right(1998)))

    def test_what_is_told_is_name_0(self):
        program = Program((("told", 9, ONE), ("told", 1, left(5))))
        self.assertEqual(run(program, left(3)), Run("ended", 2, left(3)))

    def test_nothing_handed_in_is_changed(self):
        program, thing = Program((("while", 0, (("second", 0, 0),)), ("told", 0, ONE))), right(5)
        for _ in range(3):
            self.assertEqual(run(program, thing), Run("ended", 12, ONE))
            self.assertEqual(len(stands(program, thing)), 13)
            self.assertEqual(thing, right(5))
            self.assertEqual(program, Program((("while", 0, (("second", 0, 0),)), ("told", 0, ONE))))


if __name__ == "__main__":
    unittest.main()
