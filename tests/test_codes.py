"""Programs as things: point 12 of the document."""

import unittest

from judgeslip.codes import code_of, is_code, program_of
from judgeslip.errors import NoProgram, TooGreat
from judgeslip.programs import Program
from judgeslip.things import Thing, number, row
from drawing import draw_deeds, draw_program, how_many, source
from shapes import NIL, ONE, left, right, small_things

TOLD = ("told", 0, NIL)
NUMBERS = {"told": 0, "first": 1, "second": 2, "pair": 3, "same": 4, "while": 5, "if": 6}
NO_NUMBER = Thing(ONE, NIL)
TOLD_CODE = row([number(0), number(0), NIL])


def plain_code(deeds, wrong=None, place=0):
    """The code of a row, straight by the rule; the deed of the number that is told wrong has a code that is none.

    The wrong one is a pair: the number, as they are read, and the code that stands there.
    """
    told = []
    for deed in deeds:
        if wrong and wrong[0] == place:
            told.append(wrong[1])
        else:
            inside = place + 1
            parts = [number(NUMBERS[deed[0]])]
            for part in deed[1:]:
                if isinstance(part, tuple):
                    parts.append(plain_code(part, wrong, inside))
                    inside += how_many(part)
                else:
                    parts.append(part if isinstance(part, Thing) else number(part))
            told.append(row(parts))
        place += how_many((deed,))
    return row(told)


def plain_parts(thing):
    return [] if thing == NIL else [thing.head()] + plain_parts(thing.tail())


def first_wrong(thing, at=0):
    """How many deeds a row of codes has, or (the number of the first deed whose code is none,)."""
    for code in plain_parts(thing):
        parts = plain_parts(code)
        forms = [["", "n", "t"], ["", "n", "n"], ["", "n", "n"], ["", "n", "n", "n"], ["", "n", "n", "n"],
                 ["", "n", "r"], ["", "n", "r", "r"]]
        kinds = [form for kind, form in enumerate(forms) if parts and parts[0] == number(kind)]
        if not kinds or len(kinds[0]) != len(parts):
            return (at,)
        numbers = [part for part, sign in zip(parts, kinds[0]) if sign == "n"]
        if any(part not in [number(name) for name in range(10)] for part in numbers):
            return (at,)
        at += 1
        for part, sign in zip(parts, kinds[0]):
            if sign == "r":
                at = first_wrong(part, at)
                if isinstance(at, tuple):
                    return at
    return at


def no_codes():
    """Codes of deeds that are none."""
    name, strange = number(1), [NO_NUMBER, number(10), number(11), left(3), Thing(NIL, NO_NUMBER)]
    told = [NIL, ONE, number(2), number(4), NO_NUMBER, left(5), row([number(7)]), row([number(0)])]
    for kind in (number(7), number(8), number(200), NO_NUMBER, left(2), row([NIL, ONE])):
        told.extend([row([kind, name, NIL]), row([kind, name, name]), row([kind, name, NIL, NIL])])
    for kind, parts in ((0, 2), (1, 2), (2, 2), (3, 3), (4, 3), (5, 2), (6, 3)):
        told.extend(row([number(kind)] + [NIL] * many) for many in range(7) if many != parts)
        names = {0: 1, 1: 2, 2: 2, 3: 3, 4: 3, 5: 1, 6: 1}[kind]
        for at in range(names):
            for no_name in strange:
                told.append(row([number(kind)] + [no_name if at == place else NIL for place in range(parts)]))
    return told


def in_floors(deeds, floors):
    for _ in range(floors):
        deeds = (("while", 0, deeds),)
    return deeds


def code_in_floors(code, floors, kind=5):
    """The code of so many whiles or ifs within one another around a row's code."""
    for _ in range(floors):
        code = row([row([number(5), NIL, code] if kind == 5 else [number(6), NIL, NIL, code])])
    return code


class CodeTest(unittest.TestCase):
    def test_each_kind(self):
        two, three = number(2), number(3)
        told = [
            ((), NIL),
            (("told", 2, left(2)), row([NIL, two, left(2)])),
            (("told", 0, NIL), row([NIL, NIL, NIL])),
            (("first", 2, 3), row([ONE, two, three])),
            (("second", 3, 2), row([number(2), three, two])),
            (("pair", 3, 2, 1), row([number(3), three, two, ONE])),
            (("same", 9, 0, 1), row([number(4), number(9), NIL, ONE])),
            (("while", 2, ()), row([number(5), two, NIL])),
            (("while", 2, (TOLD,)), row([number(5), two, row([TOLD_CODE])])),
            (("if", 3, (), ()), row([number(6), three, NIL, NIL])),
            (("if", 3, (TOLD,), ()), row([number(6), three, row([TOLD_CODE]), NIL])),
            (("if", 3, (), (TOLD, TOLD)), row([number(6), three, NIL, row([TOLD_CODE, TOLD_CODE])])),
        ]
        self.assertEqual(code_of(Program(())), NIL)
        for deed, code in told[1:]:
            self.assertEqual(code_of(Program((deed,))), row([code]))
            self.assertEqual(code_of(program=Program((deed, TOLD, deed))), row([code, TOLD_CODE, code]))
            self.assertEqual(program_of(row([code])), Program((deed,)))
            self.assertEqual(program_of(thing=row([code, TOLD_CODE, code])), Program((deed, TOLD, deed)))

    def test_texts(self):
        self.assertEqual(str(code_of(Program((TOLD,)))), "((.(.(..))).)")
        self.assertEqual(str(code_of(Program((("first", 1, 0),)))), "(((..)((..)(..))).)")

    def test_there_and_back(self):
        chance = source("codes")
        for many in list(range(40)) * 3:
            deeds = draw_deeds(chance, many, told=5)
            code = code_of(Program(deeds))
            self.assertIsInstance(code, Thing)
            self.assertEqual(code, plain_code(deeds))
            self.assertEqual(program_of(code).deeds, deeds)
            self.assertIs(is_code(code), True)

    def test_eight_floors(self):
        for inner in ((), (TOLD,), (("pair", 1, 2, 3), TOLD)):
            program = Program(in_floors(inner, 8))
            self.assertEqual(program_of(code_of(program)), program)
            self.assertEqual(code_of(program), code_in_floors(code_of(Program(inner)), 8))

    def test_1000_deeds(self):
        for deeds in ((TOLD,) * 1000, (("while", 0, (TOLD,) * 997),), (("if", 0, (TOLD,) * 500, (TOLD,) * 497),)):
            program = Program(deeds)
            code = code_of(program)
            self.assertLessEqual(len(code), 4000)
            self.assertEqual(program_of(code), program)
            self.assertTrue(is_code(code))
        self.assertEqual(len(code_of(Program((TOLD,) * 1000))), 4000)

    def test_a_told_thing_that_is_great(self):
        for thing in (left(3996), right(3996)):
            program = Program((("told", 0, thing),))
            self.assertEqual(len(code_of(program)), 4000)
            self.assertEqual(program_of(code_of(program)), program)

    def test_too_great(self):
        for deeds in ((TOLD,) * 1001, (TOLD,) * 999 + (("told", 1, NIL),), (("told", 0, left(3997)),),
                      (("told", 0, left(4000)),), (("told", 0, left(2000)), ("told", 0, left(2000))),
                      (("while", 0, (("told", 0, left(3990)),)),), (("if", 0, (TOLD,) * 600, (TOLD,) * 600),),
                      (("pair", 9, 9, 9),) * 1000, (TOLD,) * 4000):
            program = Program(deeds)
            with self.assertRaises(TooGreat) as caught:
                code_of(program)
            self.assertEqual(caught.exception.bound, 4000)
            self.assertEqual(program.deeds, deeds)


class ReadingTest(unittest.TestCase):
    def check_refused(self, thing, place):
        with self.assertRaises(NoProgram) as caught:
            program_of(thing)
        self.assertEqual(caught.exception.place, place)
        self.assertIs(is_code(thing), False)

    def test_every_small_thing(self):
        codes = 0
        for thing in small_things(9):
            told = first_wrong(thing)
            if isinstance(told, tuple):
                self.check_refused(thing, told[0])
                continue
            codes += 1
            program = program_of(thing)
            self.assertEqual(len(program), told)
            self.assertEqual(code_of(program), thing)
            self.assertIs(is_code(thing=thing), True)
        self.assertGreater(codes, 10)

    def test_each_small_program_s_code_is_one(self):
        # All programs of one deed that have a code of at most nine pairs stand among the small things.
        things = [str(thing) for thing in small_things(9) if is_code(thing)]
        deeds = [("told", name, thing) for name in range(6) for thing in small_things(5 - name)]
        deeds += [(kind, one, other) for kind, number_of in (("first", 1), ("second", 2))
                  for one in range(6) for other in range(6) if one + other + number_of <= 5]
        deeds += [("pair", 1, 0, 0), ("pair", 0, 1, 0), ("pair", 0, 0, 1), ("pair", 0, 0, 0), ("same", 0, 0, 0),
                  ("while", 0, ())]
        for deed in deeds:
            self.assertIn(str(code_of(Program((deed,)))), things)
        two = [("told", 0, NIL), ("told", 1, NIL), ("told", 0, ONE), ("first", 0, 0)]
        pairs = [(one, other) for one in two for other in two if TOLD in (one, other)]
        for deed_pair in pairs:
            self.assertIn(str(code_of(Program(deed_pair))), things)
        self.assertEqual(len(things), 1 + len(deeds) + len(pairs))

    def test_no_deed_s_code(self):
        for code in no_codes():
            self.check_refused(row([code]), 0)
            self.check_refused(row([TOLD_CODE, code, TOLD_CODE]), 1)
            self.check_refused(row([TOLD_CODE, row([number(5), NIL, row([code])])]), 2)
            self.check_refused(row([row([number(6), NIL, row([TOLD_CODE, code]), NIL])]), 2)
            self.check_refused(row([row([number(6), NIL, row([TOLD_CODE]), row([TOLD_CODE, code])]), NIL]), 3)
            self.check_refused(code_in_floors(row([TOLD_CODE, code]), 8), 9)

    def test_each_deed_of_drawn_ones_made_wrong(self):
        chance = source("wrong codes")
        wrong = no_codes()
        for many in (1, 8, 25, 40):
            deeds = draw_deeds(chance, many)
            for place in range(many):
                code = plain_code(deeds, (place, chance.choice(wrong)))
                self.check_refused(code, place)
                self.assertEqual(first_wrong(code), (place,))

    def test_the_first_of_two_wrong_ones(self):
        while_code = row([number(5), NIL, row([TOLD_CODE, NIL])])
        self.check_refused(row([TOLD_CODE, NIL, ONE]), 1)
        self.check_refused(row([while_code, NIL]), 2)
        self.check_refused(row([row([number(5), number(10), row([NIL])]), NIL]), 0)
        self.check_refused(row([row([number(6), NIL, row([TOLD_CODE]), row([ONE])]), NIL]), 2)

    def test_a_ninth_floor(self):
        for kind in (5, 6):
            for floors in range(9):
                self.assertEqual(len(program_of(code_in_floors(NIL, floors, kind))), floors)
            self.check_refused(code_in_floors(NIL, 9, kind), 8)
            self.check_refused(code_in_floors(NIL, 10, kind), 8)
            self.check_refused(code_in_floors(row([TOLD_CODE]), 9, kind), 8)
            self.check_refused(code_in_floors(NIL, 300, kind), 8)
        self.check_refused(code_in_floors(row([TOLD_CODE, row([number(5), NIL, NIL])]), 8), 9)
        # What is wrong in a floor too deep isn't come to; what is wrong ahead of it is.
        self.check_refused(code_in_floors(row([row([number(5), NIL, ONE])]), 8), 8)
        self.check_refused(Thing(ONE, code_in_floors(NIL, 9)), 0)

    def test_as_deep_as_a_thing_may_be(self):
        self.check_refused(left(4000), 0)
        self.check_refused(right(4000), 0)
        self.check_refused(code_in_floors(NIL, 440), 8)

    def test_what_is_no_thing(self):
        for what in (None, 0, True, "", ".", "(..)", [], (), (TOLD,), Program(()), Program((TOLD,))):
            self.check_refused(what, 0)

    def test_nothing_handed_in_is_changed(self):
        program = draw_program(source("kept"), 20)
        text, code = str(program), code_of(program)
        for _ in range(3):
            self.assertEqual(code_of(program), code)
            self.assertEqual(str(program_of(code)), text)
            self.assertEqual(str(program), text)


if __name__ == "__main__":
    unittest.main()
