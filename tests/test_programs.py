"""Programs: points 2, 7 and 8 of the document."""

import unittest

from judgeslip.errors import NoProgram, NoText
from judgeslip.programs import Program
from judgeslip.runs import Run, Stand
from judgeslip.things import Thing, number
from drawing import draw_deeds, how_many, rows_of, source
from shapes import NIL, ONE, left, right

TOLD = ("told", 0, NIL)
EACH_KIND = [
    ("told", 1, ONE), ("first", 0, 1), ("second", 2, 3), ("pair", 4, 5, 6), ("same", 7, 8, 9),
    ("while", 3, (TOLD,)), ("if", 4, (TOLD,), (TOLD, TOLD)), ("while", 0, ()), ("if", 0, (), ()),
]
NO_TUPLES = [None, 0, 1, -5, True, False, "", "told", "a = .", [], [TOLD], [[]], NIL, ONE, Program(()),
             Program((TOLD,))]
NO_DEEDS = [
    None, 0, 7, True, "", "told", "a = .", [], ["told", 0, NIL], NIL, ONE, Program(()), Program((TOLD,)),
    (), ("told",), ("told", 0), ("told", 0, NIL, NIL), ("first",), ("first", 0), ("first", 0, 1, 2),
    ("second", 0), ("second", 0, 1, 2), ("pair",), ("pair", 0, 1), ("pair", 0, 1, 2, 3),
    ("same", 0, 1), ("same", 0, 1, 2, 3), ("while",), ("while", 0), ("while", 0, (), ()),
    ("if",), ("if", 0), ("if", 0, ()), ("if", 0, (), (), ()),
    ("", 0, 1), ("tell", 0, NIL), ("Told", 0, NIL), ("told ", 0, NIL), ("tol", 0, NIL), ("unless", 0, (), ()),
    (None, 0, NIL), (0, 0, NIL), (True, 0, NIL), (["told"], 0, NIL), (("told",), 0, NIL), (NIL, 0, NIL),
    (Program(()), 0, NIL), (TOLD, 0, NIL), ("n", 0), (0, 1, 2),
    ("told", 0, None), ("told", 0, 0), ("told", 0, "."), ("told", 0, ()), ("told", 0, [NIL]), ("told", 0, False),
    ("told", 0, Program(())), ("told", 0, (NIL, NIL)), ("told", NIL, 0),
    ("while", 0, None), ("while", 0, []), ("while", 0, [TOLD]), ("while", 0, NIL), ("while", 0, ""),
    ("while", 0, Program((TOLD,))), ("while", 0, 3), ("while", 0, True), ("while", (), 0),
    ("if", 0, None, ()), ("if", 0, (), None), ("if", 0, [], ()), ("if", 0, (), []), ("if", 0, (TOLD,), [TOLD]),
    ("if", 0, (), NIL), ("if", 0, "", ()), ("if", 0, Program(()), Program(())),
]
NO_NAMES = [True, False, -1, 10, 11, 999999999999, -999999999999, "0", "a", "", None, NIL, (), [], (1,), Program(())]


def in_floors(row, floors, kind="while"):
    """The row, within so many whiles or ifs."""
    for _ in range(floors):
        row = (("while", 0, row),) if kind == "while" else (("if", 0, (), row),)
    return row


def put_at(row, place, new):
    """The row with the deed of this number, as they are read, made another."""
    told = []
    for deed in row:
        many = how_many((deed,))
        if place == 0:
            told.append(new)
        elif 0 < place < many:
            inner = []
            place -= 1
            for part in rows_of(deed):
                inner.append(put_at(part, place, new))
                place -= how_many(part)
            told.append((*deed[:2], *inner))
            place = -1
            continue
        else:
            told.append(deed)
        place -= many
    return tuple(told)


class MakingTest(unittest.TestCase):
    def test_no_deeds(self):
        none = Program(())
        self.assertEqual(none.deeds, ())
        self.assertEqual(len(none), 0)
        self.assertEqual(none.used(), ())

    def test_each_kind(self):
        for deed in EACH_KIND:
            told = Program((deed,))
            self.assertEqual(told.deeds, (deed,))
            self.assertIs(type(told.deeds), tuple)
            self.assertEqual(Program(deeds=(deed,)), told)

    def test_the_very_tuple_is_kept(self):
        deeds = tuple(EACH_KIND)
        self.assertIs(Program(deeds).deeds, deeds)

    def test_each_name_at_each_place(self):
        for name in range(10):
            for deed in (("told", name, NIL), ("first", name, 0), ("first", 0, name), ("second", name, 0),
                         ("second", 0, name), ("pair", name, 0, 0), ("pair", 0, name, 0), ("pair", 0, 0, name),
                         ("same", name, 0, 0), ("same", 0, name, 0), ("same", 0, 0, name), ("while", name, ()),
                         ("if", name, (), ())):
                self.assertEqual(Program((deed,)).deeds, (deed,))
                self.assertEqual(Program((deed,)).used(), tuple(sorted({name} | ({0} if deed.count(0) else set()))))

    def test_told_things_of_4000_pairs(self):
        for thing in (left(4000), right(4000)):
            self.assertEqual(Program((("told", 3, thing),)).deeds[0][2], thing)

    def test_the_methods_stand_in_the_class_itself(self):
        for name in ("used", "__len__", "__eq__", "__str__", "__repr__"):
            self.assertIn(name, vars(Program))


class LengthTest(unittest.TestCase):
    def test_rows_count(self):
        for deeds, many in (((TOLD,), 1), ((TOLD, TOLD), 2), ((("while", 0, ()),), 1), ((("if", 0, (), ()),), 1),
                            ((("while", 0, (TOLD, TOLD)),), 3), ((("if", 0, (TOLD,), (TOLD, TOLD)), TOLD), 5),
                            (in_floors((TOLD,), 8), 9), (in_floors((), 8, "if"), 8)):
            self.assertEqual(len(Program(deeds)), many)

    def test_one_row_that_stands_several_times(self):
        row = (TOLD, ("while", 1, (TOLD,)))
        self.assertEqual(len(Program((("if", 0, row, row), ("while", 2, row)))), 11)
        deed = ("if", 0, row, ())
        self.assertEqual(len(Program((deed, deed, deed))), 12)
        for _ in range(3):
            row = (("if", 0, row, row),)
        self.assertEqual(len(Program(row)), 7 + 8 * 3)

    def test_drawn(self):
        chance = source("length")
        for many in (1, 5, 20, 100, 200, 1000, 4000):
            deeds = draw_deeds(chance, many)
            self.assertEqual(len(Program(deeds)), many)
            self.assertEqual(how_many(deeds), many)


class UsedTest(unittest.TestCase):
    def test_used(self):
        told = [((TOLD,), (0,)), ((("told", 9, ONE),), (9,)), ((("first", 3, 1),), (1, 3)),
                ((("second", 2, 2),), (2,)), ((("pair", 5, 4, 9),), (4, 5, 9)), ((("same", 8, 0, 8),), (0, 8)),
                ((("while", 6, ()),), (6,)), ((("if", 7, (), ()),), (7,)),
                ((("while", 6, (("if", 2, (("told", 4, NIL),), (("first", 1, 9),)),)),), (1, 2, 4, 6, 9))]
        for deeds, names in told:
            self.assertEqual(Program(deeds).used(), names)
            self.assertIs(type(Program(deeds).used()), tuple)

    def test_all(self):
        self.assertEqual(Program(tuple(("told", name, NIL) for name in reversed(range(10)))).used(), tuple(range(10)))


class SameTest(unittest.TestCase):
    def test_of_the_same_and_of_other_deeds(self):
        chance, again = source("same"), source("same")
        ones = [Program(draw_deeds(chance, many)) for many in range(30)]
        others = [Program(draw_deeds(again, many)) for many in range(30)]
        for at, one in enumerate(ones):
            for place, other in enumerate(others):
                self.assertIs(one == other, at == place)
                self.assertIs(one != other, at != place)

    def test_unlike_in_one_part(self):
        alike = [("told", 0, NIL), ("told", 1, NIL), ("told", 0, ONE), ("first", 0, 1), ("second", 0, 1),
                 ("first", 1, 0), ("pair", 0, 1, 2), ("same", 0, 1, 2), ("pair", 0, 2, 1), ("while", 0, ()),
                 ("while", 0, (TOLD,)), ("if", 0, (), ()), ("if", 0, (TOLD,), ()), ("if", 0, (), (TOLD,)),
                 ("told", 0, left(3)), ("told", 0, right(3))]
        for at, one in enumerate(alike):
            for place, other in enumerate(alike):
                self.assertIs(Program((one,)) == Program((other,)), at == place)
        self.assertNotEqual(Program((TOLD,)), Program((TOLD, TOLD)))
        self.assertNotEqual(Program(()), Program((TOLD,)))

    def test_told_things_that_are_built_alike(self):
        self.assertEqual(Program((("told", 0, left(4000)),)), Program((("told", 0, left(4000)),)))

    def test_nothing_of_another_kind_is_the_same(self):
        class Alike:
            deeds = ()

        for program in (Program(()), Program((TOLD,))):
            for stranger in (None, 0, 1, True, False, "", "a = .", (), (TOLD,), [], [TOLD], NIL, ONE, Alike(),
                             Stand(0, (NIL,) * 10), Run("open", 0), NoText(0), object(), Program, {}, b""):
                self.assertIs(program == stranger, False)
                self.assertIs(stranger == program, False)
                self.assertIs(program != stranger, True)
                self.assertIs(stranger != program, True)


class Refusing(unittest.TestCase):
    def check_refused(self, deeds, place):
        with self.assertRaises(NoProgram) as caught:
            Program(deeds)
        self.assertEqual(caught.exception.place, place)
        self.assertIs(type(caught.exception.place), int)


class RefusalTest(Refusing):
    def test_no_tuple_at_all(self):
        for what in NO_TUPLES:
            self.check_refused(what, 0)

    def test_no_deed(self):
        for what in NO_DEEDS:
            self.check_refused((what,), 0)
            self.check_refused((TOLD, what), 1)
            self.check_refused((TOLD, what, TOLD), 1)

    def test_a_deed_itself_is_no_program(self):
        for deed in EACH_KIND:
            self.check_refused(deed, 0)

    def test_a_name_that_is_none(self):
        for name in NO_NAMES:
            for deed in (("told", name, NIL), ("first", name, 0), ("first", 0, name), ("second", name, 1),
                         ("second", 1, name), ("pair", name, 0, 0), ("pair", 0, name, 0), ("pair", 0, 0, name),
                         ("same", name, 1, 1), ("same", 1, name, 1), ("same", 1, 1, name), ("while", name, ()),
                         ("while", name, (TOLD,)), ("if", name, (), ()), ("if", name, (TOLD,), (TOLD,))):
                self.check_refused((TOLD, TOLD, deed), 2)

    def test_a_wrong_deed_within_a_row(self):
        for what in NO_DEEDS:
            self.check_refused((TOLD, ("while", 0, (what,))), 2)
            self.check_refused((TOLD, ("while", 0, (TOLD, what)), TOLD), 3)
            self.check_refused((("if", 0, (what,), (TOLD,)),), 1)
            self.check_refused((("if", 0, (TOLD, what), (TOLD,)),), 2)
            self.check_refused((("if", 0, (), (what,)),), 1)
            self.check_refused((("if", 0, (TOLD, TOLD), (TOLD, what)), TOLD), 4)
            self.check_refused((("if", 0, (TOLD, TOLD), ()), what), 3)
            self.check_refused(in_floors((TOLD, what), 8), 9)

    def test_a_row_that_is_no_tuple_is_told_of_the_deed_itself(self):
        for row in (None, [], [TOLD], NIL, "row", 4, True, Program((TOLD,))):
            self.check_refused((TOLD, ("while", 0, row)), 1)
            self.check_refused((TOLD, ("if", 0, row, (TOLD,))), 1)
            # The if itself is read ahead of what is wrong in its first row.
            self.check_refused((TOLD, ("if", 0, (None,), row)), 1)
            self.check_refused((TOLD, ("if", 0, (TOLD, TOLD), row)), 1)

    def test_the_first_of_two_wrong_ones(self):
        self.check_refused((TOLD, None, ()), 1)
        self.check_refused((("while", 0, (TOLD, None)), None), 2)
        self.check_refused((("if", 0, (TOLD, None), (None,)), None), 2)
        self.check_refused((("if", 0, (TOLD, TOLD), (None, 3)), None), 3)
        self.check_refused((("while", 10, (None,)), None), 0)
        self.check_refused((("while", 1, ()), ("while", 1, None), None), 1)
        self.check_refused(in_floors((TOLD, ("while", 0, ()), None), 8), 9)
        self.check_refused(in_floors((None, ("while", 0, ())), 8), 8)

    def test_each_deed_of_drawn_ones_made_wrong(self):
        chance = source("wrong")
        for many in (1, 7, 25, 60):
            deeds = draw_deeds(chance, many)
            for place in range(many):
                wrong = put_at(deeds, place, chance.choice(NO_DEEDS))
                self.check_refused(wrong, place)
                self.check_refused(wrong + (None,), place)
            self.assertEqual(Program(put_at(deeds, many, None)).deeds, deeds)


class FloorTest(Refusing):
    def test_eight_floors(self):
        for kind in ("while", "if"):
            for inner in ((), (TOLD,), (TOLD, TOLD)):
                for floors in range(9):
                    self.assertEqual(len(Program(in_floors(inner, floors, kind))), floors + len(inner))
        self.assertEqual(len(Program(in_floors(tuple(EACH_KIND[:5]), 8))), 13)

    def test_a_ninth_floor(self):
        for kind in ("while", "if"):
            for look in (("while", 0, ()), ("while", 0, (TOLD,)), ("if", 0, (), ()), ("if", 0, (TOLD,), (TOLD,))):
                self.check_refused(in_floors((look,), 8, kind), 8)
                self.check_refused(in_floors((TOLD, look, TOLD), 8, kind), 9)
                self.check_refused((TOLD, *in_floors((look,), 8, kind), None), 9)
        self.check_refused(in_floors((), 9), 8)
        self.check_refused(in_floors((), 28), 8)

    def test_floors_by_turns(self):
        row = ()
        for at in range(8):
            row = (("while", 0, row), TOLD) if at % 2 else (TOLD, ("if", 0, row, ()))
        self.assertEqual(len(Program(row)), 16)
        # The last one stands beside the others, not in them.
        self.assertEqual(len(Program(row + row)), 32)
        self.check_refused((("while", 0, row),), 12)

    def test_in_the_first_row_and_in_the_other_one(self):
        deep = in_floors((), 7)
        self.assertEqual(len(Program((("if", 0, deep, deep),))), 15)
        self.check_refused((("if", 0, deep, in_floors((), 8)),), 15)
        self.check_refused((("if", 0, in_floors((), 8), deep),), 8)


class ManyTest(Refusing):
    def test_4000_deeds(self):
        for deeds in ((TOLD,) * 4000, (("while", 0, ()),) * 4000, (("while", 0, (TOLD,) * 3999),),
                      (("if", 0, (TOLD,) * 2000, (TOLD,) * 1999),), (("if", 0, (TOLD,) * 3, ()),) * 1000,
                      (TOLD,) * 3992 + in_floors((), 8)):
            self.assertEqual(len(Program(deeds)), 4000)

    def test_4001_deeds(self):
        for deeds in ((TOLD,) * 4001, (("while", 0, ()),) * 4001, (("while", 0, (TOLD,) * 4000),),
                      (("if", 0, (TOLD,) * 2000, (TOLD,) * 2000),), (("if", 0, (TOLD,) * 4000, ()),),
                      (("if", 0, (TOLD,) * 3, ()),) * 1001, (TOLD,) * 4000 + (None,), (TOLD,) * 20000,
                      (TOLD,) * 3999 + (("while", 0, (TOLD,)),), (TOLD,) * 3999 + (("if", 0, (), (None,)),),
                      (("while", 0, (TOLD,) * 3999), TOLD)):
            self.check_refused(deeds, 4000)

    def test_what_is_wrong_ahead_of_them(self):
        self.check_refused((TOLD,) * 3999 + (None,), 3999)
        self.check_refused((TOLD,) * 3999 + (None, TOLD), 3999)
        self.check_refused((None,) * 20000, 0)

    def test_one_row_that_stands_very_often(self):
        row = (TOLD,)
        for _ in range(8):
            row = (("if", 0, row * 5, row * 5),) * 5
        self.check_refused(row, 4000)


class StayingTest(unittest.TestCase):
    def test_what_is_refused_stays(self):
        row = [TOLD]
        deeds = (("while", 0, row),)
        with self.assertRaises(NoProgram):
            Program(deeds)
        self.assertEqual(row, [TOLD])
        row.append(TOLD)
        with self.assertRaises(NoProgram):
            Program(deeds)

    def test_used_and_text_change_nothing(self):
        program = Program(tuple(EACH_KIND))
        for _ in range(3):
            self.assertEqual(program.used(), tuple(range(10)))
            self.assertEqual(len(program), 13)
            self.assertEqual(program, Program(tuple(EACH_KIND)))
            str(program)

    def test_a_thing_stays_told(self):
        thing = number(5)
        program = Program((("told", 0, thing),))
        Thing(thing, thing)
        self.assertEqual(program.deeds, (("told", 0, number(5)),))


if __name__ == "__main__":
    unittest.main()
