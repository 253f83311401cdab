"""Judges of doing and the twins of which they say unlike things: point 20 of the document, and what 3 promises."""

import unittest

from judgeslip.codes import code_of, is_code, program_of
from judgeslip.errors import NoRoom, TooGreat
from judgeslip.programs import Program
from judgeslip.runs import Run, run, stands, step
from judgeslip.twins import twins
from judgeslip.things import number
from judgeslip.words import read_program
from drawing import draw_coded, draw_thing, lasting, rows_of, source
from shapes import NIL, ONE, full, left, right

INPUTS = [NIL, ONE, number(2), left(3), left(200), right(200), full(7)]
OPEN = ("open", None, None, 0)
ALIKE = ("alike", None, None, 0)
# Says yes of a code whose first deed isn't told.
FIRST_KIND = read_program("a = first a ; a = first a")
TOLD = ("told", 0, NIL)
PAIRED = ("pair", 0, 0, 0)


def knows(program):
    """A judge that says yes of this program's code alone."""
    return Program((("told", 1, code_of(program)), ("same", 0, 0, 1)))


def in_floors(floors, inner=(TOLD,), kind="while", name=0):
    for _ in range(floors):
        inner = (("while", name, inner),) if kind == "while" else (("if", name, (), inner),)
    return inner


def rest_of_row(row, point, first=0):
    """The rest of its row from the deed at a point on; None where it isn't in this one."""
    for at, deed in enumerate(row):
        if first == point:
            return row[at:]
        first += 1
        for part in rows_of(deed):
            found = rest_of_row(part, point, first)
            if found is not None:
                return found
            first += len(Program(part))
    return None


class Twinning(unittest.TestCase):
    def check_twins(self, judge, one, other, budget=4000, things=INPUTS):
        """All that is told is so; tells the word."""
        told = twins(judge, one, other, budget)
        self.assertIs(type(told), tuple)
        says = [run(judge, code_of(program), budget) for program in (one, other)]
        if any(said.word != "ended" for said in says):
            self.assertEqual(told, OPEN)
        elif bool(says[0].thing) == bool(says[1].thing):
            self.assertEqual(told, ALIKE)
        elif told != OPEN:
            self.check_told(judge, one, other, budget, told, things)
        return told[0]

    def check_told(self, judge, one, other, budget, told, things):
        word, made, like, count = told
        self.assertEqual(word, "twins")
        self.assertIsInstance(made, Program)
        self.assertIn(like, (one, other))
        self.assertIs(type(count), int)
        said = run(judge, code_of(made), budget)
        self.assertEqual(said.word, "ended")
        self.assertNotEqual(bool(said.thing), bool(run(judge, code_of(like), budget).thing))
        self.assertLessEqual(count, said.steps + 400)
        if sum(len(code_of(program)) for program in (judge, one, other)) <= 300:
            self.assertLessEqual(len(code_of(made)), 2000)
        for thing in things:
            self.check_stand(made, like, count, thing)
        if count < 290:
            ways = [[stand.point for stand in stands(made, thing, count + 1)] for thing in things]
            self.assertEqual(ways, ways[:1] * len(things))

    def check_stand(self, made, like, count, thing):
        """Behind count steps it stands at the first deed of the one that it is like, and then does the same."""
        if count < 290:
            stand = stands(made, thing, count + 1)[count]
            self.assertEqual(stand.names, (thing,) + (NIL,) * 9)
            self.assertEqual(rest_of_row(made.deeds, stand.point), like.deeds)
            self.check_beside(made, stand, like, thing)
        whole = run(like, thing, 500)
        self.assertEqual(run(made, thing, 500 + count), Run(whole.word, whole.steps + count, whole.thing))

    def check_beside(self, made, stand, like, thing):
        """From the stand on it goes step by step beside the other's run."""
        first = stand.point
        for at, other in enumerate(stands(like, thing, 40)):
            if at > 0:
                stand = step(made, stand)
            self.assertEqual(stand.names, other.names)
            self.assertEqual(stand.point, len(made) if other.point == len(like) else first + other.point)


class TwinsTest(Twinning):
    def test_judges_that_know_a_code(self):
        one, other = read_program("a = pair a a"), read_program("a = first a")
        for judge in (knows(one), knows(other)):
            for pair in ((one, other), (other, one)):
                self.assertEqual(self.check_twins(judge, *pair), "twins")
        # It says no of the twin, which is then like the one that is known.
        self.assertEqual(twins(knows(one), one, other)[2], one)
        self.assertEqual(twins(knows(one), other, one)[2], one)
        self.assertEqual(twins(knows(other), one, other)[2], other)
        self.assertEqual(twins(knows(read_program("")), one, other), ALIKE)

    def test_the_first_deed_s_kind(self):
        yes, no = read_program("a = pair a a ; b = first a"), read_program("a = .")
        self.assertEqual(self.check_twins(FIRST_KIND, yes, no), "twins")
        self.assertEqual(self.check_twins(FIRST_KIND, no, yes), "twins")
        for deed in (TOLD, ("first", 0, 0), ("second", 0, 0), PAIRED, ("same", 0, 0, 0), ("while", 0, ()),
                     ("if", 0, (), ())):
            for kind in range(7):
                judge = Program(FIRST_KIND.deeds + (("told", 1, number(kind)), ("same", 0, 0, 1)))
                for later in ((), (PAIRED,)):
                    self.check_twins(judge, Program((deed,) + later), yes)
                    self.check_twins(judge, no, Program((deed,) + later))

    def test_both_ways_of_the_twin_s_own_choice(self):
        # Whether a code has many deeds: so it says yes of the twin, which is then like the one without.
        one, other = Program((TOLD,) * 3), Program((TOLD,))
        judge = read_program("a = second a")
        self.assertEqual(self.check_twins(judge, one, other), "twins")
        self.assertEqual(twins(judge, one, other)[2], other)
        self.assertEqual(twins(judge, other, one)[2], other)
        self.assertEqual(twins(FIRST_KIND, Program((PAIRED,)), other)[2], Program((PAIRED,)))

    def test_the_same_of_both(self):
        one, other = read_program("a = pair a a"), read_program("a = .")
        for text in ("a = (..)", "a = .", "", "a = second a ; a = second a"):
            judge = read_program(text)
            self.assertEqual(twins(judge, one, other), ALIKE)
            self.assertEqual(twins(judge, other, one), ALIKE)
        for program in (one, other):
            self.assertEqual(twins(knows(one), program, program), ALIKE)

    def test_nothing_of_one(self):
        one, other = read_program("a = pair a a"), read_program("a = .")
        # Runs on for ever by codes whose first deed isn't told, or is.
        stuck = Program(FIRST_KIND.deeds + (("while", 0, ()),))
        self.assertEqual(twins(stuck, one, other), OPEN)
        self.assertEqual(twins(stuck, other, one), OPEN)
        self.assertEqual(twins(stuck, one, one), OPEN)
        self.assertEqual(twins(stuck, other, other), ALIKE)
        great = Program(FIRST_KIND.deeds + (("while", 0, (PAIRED,)),))
        self.assertEqual(twins(great, one, other), OPEN)

    def test_nothing_of_the_told_one(self):
        # Runs on for ever by codes of more than two deeds.
        judge = read_program("b = second a ; b = second b ; while b [ ] ; a = second a")
        one, other = Program((TOLD,)), Program((TOLD, TOLD))
        self.assertEqual(twins(judge, one, other), OPEN)
        self.assertEqual(twins(judge, other, one), OPEN)
        self.assertEqual(twins(judge, one, one), ALIKE)
        great = read_program("b = second a ; b = second b ; while b [ b = pair b b ] ; a = second a")
        self.assertEqual(twins(great, one, other), OPEN)

    def test_judges_that_leave_all_names_full(self):
        deeds = tuple(("pair", name, 0, 0) for name in range(1, 8))
        judge = Program(deeds + FIRST_KIND.deeds)
        for pair in (("a = pair a h", "a = ."), ("b = pair b h ; a = pair b g", "h = (..)")):
            one, other = map(read_program, pair)
            self.check_twins(judge, one, other)
            self.check_twins(judge, other, one)

    def test_programs_that_tell_all_their_names(self):
        gather = tuple(("pair", 0, 0, name) for name in range(1, 8))
        one, other = Program(gather), Program((TOLD,) + gather)
        for judge in (FIRST_KIND, knows(one), knows(other)):
            self.assertEqual(self.check_twins(judge, one, other), "twins")

    def test_programs_that_never_end_or_grow(self):
        for text in ("while a [ ]", "while a [ a = pair a a ]", "if a [ while a [ ] ] [ a = pair a a ]"):
            one, other = read_program(text), Program((TOLD,))
            for judge in (FIRST_KIND, knows(one), knows(other)):
                self.assertEqual(self.check_twins(judge, one, other), "twins")

    def test_seven_floors(self):
        for kind in ("while", "if"):
            one, other = Program(in_floors(7, kind=kind)), Program((TOLD,))
            deep = Program((("told", 1, ONE),) + in_floors(7, (("told", 1, NIL),), name=1) + FIRST_KIND.deeds)
            for judge in (FIRST_KIND, knows(other), deep):
                self.assertEqual(self.check_twins(judge, one, other), "twins")
                self.assertEqual(self.check_twins(judge, other, one), "twins")

    def test_budgets(self):
        one, other = read_program("a = pair a a"), read_program("a = .")
        for steps in (10, 100, 4000, 10000):
            judge = Program(lasting(steps - 2) + FIRST_KIND.deeds)
            self.assertEqual(self.check_twins(judge, one, other, steps, [NIL, left(200)]), "twins")
            self.assertEqual(twins(judge, one, other, steps - 1), OPEN)
            self.assertEqual(twins(judge, one, other, budget=steps)[0], "twins")
        judge = Program(lasting(3998) + FIRST_KIND.deeds)
        self.assertEqual(twins(judge, one, other)[0], "twins")
        judge = Program(lasting(3999) + FIRST_KIND.deeds)
        self.assertEqual(twins(judge, one, other), OPEN)
        self.assertEqual(twins(FIRST_KIND, one, other, 0), OPEN)
        self.assertEqual(twins(Program(()), one, other, 0), ALIKE)

    def test_the_budget_is_that_of_the_told_one_too(self):
        # It goes through the row of deeds, and so takes longer on the twin.
        judge = read_program("b = pair a c ; b = first b ; while b [ b = second b ] ; a = first a ; a = first a")
        one, other = Program((PAIRED,)), Program((TOLD,))
        self.assertEqual(run(judge, code_of(one)).steps, 7)
        self.assertEqual(twins(judge, one, other, 6), OPEN)
        self.assertEqual(twins(judge, one, other, 7), OPEN)
        self.assertEqual(self.check_twins(judge, one, other), "twins")
        made = twins(judge, one, other)[1]
        steps = run(judge, code_of(made)).steps
        self.assertEqual(twins(judge, one, other, steps - 1), OPEN)
        self.assertEqual(twins(judge, one, other, steps)[0], "twins")

    def test_greater_things(self):
        # As great as the pair of the twin's code and the thing may be.
        one, other = read_program("a = second a"), read_program("a = .")
        _, made, like, count = twins(FIRST_KIND, one, other)
        room = 4000 - 1 - len(code_of(made))
        self.assertGreater(room, 2000)
        for thing in (left(room), right(room)):
            self.check_stand(made, like, count, thing)

    def test_by_keyword(self):
        one, other = read_program("a = pair a a"), read_program("a = .")
        told = twins(FIRST_KIND, one, other)
        self.assertEqual(twins(judge=FIRST_KIND, one=one, other=other), told)
        self.assertEqual(twins(budget=10000, other=other, one=one, judge=FIRST_KIND), told)
        self.assertEqual(twins(FIRST_KIND, one, other, 4000), told)

    def test_told_ones_are_handed_in_again(self):
        one, other = read_program("a = pair a a"), read_program("a = .")
        _, made, like, _ = twins(FIRST_KIND, one, other)
        self.assertTrue(is_code(code_of(made)))
        self.assertEqual(program_of(code_of(made)), made)
        # It has names beyond 7, and so leaves no room.
        with self.assertRaises(NoRoom) as caught:
            twins(FIRST_KIND, made, like)
        self.assertEqual(caught.exception.what, "names")


class NoRoomTest(unittest.TestCase):
    def check_refused(self, what, judge, one, other):
        kept = (judge.deeds, one.deeds, other.deeds)
        with self.assertRaises(NoRoom) as caught:
            twins(judge, one, other)
        self.assertEqual(caught.exception.what, what)
        with self.assertRaises(NoRoom):
            twins(judge, one, other, 0)
        self.assertEqual((judge.deeds, one.deeds, other.deeds), kept)

    def each_place(self, program, plain=Program((TOLD,))):
        return [(program, plain, plain), (plain, program, plain), (plain, plain, program)]

    def test_names(self):
        for name in (8, 9):
            for deed in (("told", name, NIL), ("first", name, 0), ("second", 0, name), ("pair", 0, 0, name),
                         ("same", 0, name, 0), ("while", name, ()), ("if", name, (), ()),
                         ("while", 0, (("told", name, NIL),)), ("if", 0, (), (("first", 0, name),))):
                for told in self.each_place(Program((deed,))):
                    self.check_refused("names", *told)
        for name in range(8):
            for told in self.each_place(Program((("told", name, NIL),))):
                twins(*told)

    def test_depth(self):
        for kind in ("while", "if"):
            for told in self.each_place(Program(in_floors(8, kind=kind))):
                self.check_refused("depth", *told)
            for told in self.each_place(Program((TOLD,) + in_floors(8, (), kind) + (TOLD,))):
                self.check_refused("depth", *told)
            for told in self.each_place(Program(in_floors(7, kind=kind))):
                twins(*told)

    def test_deeds(self):
        plain = Program((TOLD,))
        self.check_refused("deeds", plain, Program(()), plain)
        self.check_refused("deeds", plain, plain, Program(()))
        self.check_refused("deeds", plain, Program(()), Program(()))
        # A judge of no deeds is one: it says yes of every code but nil.
        self.assertEqual(twins(Program(()), plain, plain), ALIKE)

    def test_two_at_once(self):
        names, depth, deeds = Program((("told", 9, NIL),)), Program(in_floors(8)), Program(())
        plain = Program((TOLD,))
        both = Program((("told", 8, NIL),) + in_floors(8))
        for told in ((names, depth, deeds), (depth, names, deeds), (depth, deeds, names), (plain, depth, names),
                     (plain, names, depth), (both, plain, plain), (plain, both, deeds), (names, deeds, deeds)):
            self.check_refused("names", *told)
        for told in ((depth, deeds, plain), (plain, depth, deeds), (plain, deeds, depth), (depth, plain, deeds)):
            self.check_refused("depth", *told)

    def test_ahead_of_too_great(self):
        great = Program((("told", 0, left(4000)),))
        plain, deeds = Program((TOLD,)), Program(())
        for told in self.each_place(great, Program((("told", 9, NIL),))):
            self.check_refused("names", *told)
        for told in self.each_place(great, Program(in_floors(8))):
            self.check_refused("depth", *told)
        self.check_refused("deeds", great, deeds, plain)
        self.check_refused("deeds", plain, great, deeds)
        self.check_refused("deeds", plain, deeds, great)


class TooGreatTest(unittest.TestCase):
    def check_refused(self, *told):
        with self.assertRaises(TooGreat) as caught:
            twins(*told)
        self.assertEqual(caught.exception.bound, 4000)

    def test_codes_too_great(self):
        great, plain = Program((("told", 0, left(4000)),)), Program((PAIRED,))
        for judge in (FIRST_KIND, Program(()), read_program("while a [ ]")):
            self.check_refused(judge, great, plain)
            self.check_refused(judge, plain, great)
        self.check_refused(FIRST_KIND, Program((TOLD,) * 4000), plain)

    def test_the_told_one_s_code(self):
        one = Program((PAIRED,))
        for many in (2500, 3900):
            other = Program((("told", 0, left(many)),))
            self.check_refused(FIRST_KIND, one, other)
            self.check_refused(FIRST_KIND, other, one)
            # Where no such program is made nothing is refused.
            self.assertEqual(twins(Program(()), one, other), ALIKE)
        great = Program((("told", 1, left(4000)),) * 3 + FIRST_KIND.deeds)
        self.check_refused(great, one, Program((TOLD,)))
        many = Program((TOLD,) * 3990 + (("told", 0, NIL), ("same", 0, 0, 0)))
        self.assertEqual(twins(many, one, Program((TOLD,)))[0], "alike")
        many = Program((("first", 0, 0), ("first", 0, 0)) + (("told", 1, NIL),) * 3997)
        self.check_refused(many, one, Program((TOLD,)))


class DrawnTest(Twinning):
    def test_drawn_ones(self):
        chance = source("twins")
        seen = {"twins": 0, "alike": 0, "open": 0}
        for at in range(400):
            most = chance.choice([30, 60, 95])
            one, other = (Program(draw_coded(chance, most, names=8).deeds or (TOLD,)) for _ in range(2))
            tail = draw_coded(chance, most, names=8, told=10).deeds
            judge = Program(tail) if at % 2 else Program(chance.choice([FIRST_KIND, knows(one)]).deeds + tail[:2])
            try:
                word = self.check_twins(judge, one, other, chance.choice([200, 4000]), [NIL, draw_thing(chance, 200)])
            except NoRoom as caught:
                self.assertEqual(caught.what, "depth")
            else:
                seen[word] += 1
        self.assertGreater(seen["twins"], 60, seen)
        self.assertGreater(seen["alike"], 60, seen)

    def test_the_greatest(self):
        # Together the codes have 300 pairs; the judge uses each name that it may.
        clears = tuple(("first", name, name) for name in range(1, 8))
        judge = Program(clears + FIRST_KIND.deeds)
        other = Program((TOLD,))
        room = 300 - len(code_of(judge)) - len(code_of(other)) - len(code_of(Program((PAIRED, TOLD))))
        one = Program((PAIRED, ("told", 0, left(room))))
        self.assertEqual(sum(len(code_of(program)) for program in (judge, one, other)), 300)
        self.assertEqual(self.check_twins(judge, one, other), "twins")
        self.assertEqual(self.check_twins(judge, other, one), "twins")


if __name__ == "__main__":
    unittest.main()
