"""The looker and plain papers: points 23 to 25 of the document, for "run", "again", "closed", "late" and any thing."""

import unittest

from judgeslip.cuts import closed, cut_steps
from judgeslip.endless import again, endless
from judgeslip.late import late
from judgeslip.looker import holds
from judgeslip.programs import Program
from judgeslip.runs import run, stands
from judgeslip.things import Thing, number
from judgeslip.words import read_program
from cutting import needs_depth, plain_cut, plain_steps
from drawing import draw_program, draw_thing, lasting, source
from papers import Papers, bent, draw_any, nested
from shapes import NIL, ONE, full, left, right, zigzag

FOR_EVER = read_program("while a [ ]")
ROUND = read_program("while a [ b = first a ; b = . ]")
GROWING = read_program("while a [ b = pair b a ]")
TAILS = read_program("while a [ a = second a ]")
TOLD = ("told", 0, NIL)


class AnyThingTest(Papers):
    def test_strangers(self):
        for stranger in (None, True, False, 0, 1, -1, 10 ** 11, "", "run", "again", [], (), [[]], ((),), NIL, ONE,
                         Program(()), FOR_EVER, ("run",), ["run"], ("run", None), (None,), (NIL,), ([],), (True,),
                         (0, 1, 2, 3, 4), (FOR_EVER, "again", ONE, 0, 1)):
            self.check(stranger, False)
        for word in ("", "Again", "again ", " again", "agai", ["again"], ("again",), None, True, 0, NIL):
            self.check((word, FOR_EVER, ONE, 0, 1), False)

    def test_deep_and_great_ones(self):
        for depth in (1, 5, 30):
            for shut in (tuple, list):
                deep = nested(depth, shut)
                self.check(deep, False)
                self.check(("again", deep, ONE, 0, 1), False)
                self.check(("closed", FOR_EVER, ONE, 1, [deep]), False)
                self.check(("closed", FOR_EVER, ONE, 1, [(0, (deep,) * 10)]), depth == 0)
                self.check(("slip", FOR_EVER, ONE, FOR_EVER, "ends", deep), False)
        many = [None] * 19990
        self.check(many, False)
        self.check(tuple(many), False)
        self.check(("closed", FOR_EVER, ONE, 1, many), False)
        self.check(("closed", FOR_EVER, ONE, 1, many[:9] + [(0, ())] * 5000), False)
        self.check(("again", *many), False)
        self.check(("slip", FOR_EVER, ONE, FOR_EVER, "ends", tuple(many)), False)
        self.check("x" * 20000, False)

    def test_drawn_ones(self):
        chance = source("any thing")
        for _ in range(1500):
            self.check(draw_any(chance, 6), False)
            form = chance.choice(["run", "again", "closed", "slip", "twins", "late"])
            self.check((form, *[draw_any(chance, 3) for _ in range(chance.randint(0, 6))]), None)

    def test_by_keyword(self):
        self.assertIs(holds(paper=("again", FOR_EVER, ONE, 0, 1)), True)
        self.assertIs(holds(paper=None), False)

    def test_nothing_is_changed(self):
        paper = ("closed", GROWING, ONE, 1, closed(GROWING, ONE, 1))
        kept = list(paper[4])
        self.check(paper, True)
        self.assertEqual(paper[4], kept)
        paper[4].pop()
        self.check(paper, False)


class RunTest(Papers):
    def check_run(self, program, thing):
        whole = run(program, thing, 20000)
        self.assertEqual(whole.word, "ended")
        paper = ("run", program, thing, whole.thing, whole.steps)
        self.check(paper, True)
        self.check_bent(paper)
        for steps in (whole.steps - 1, whole.steps + 1, 0, -1, -whole.steps, 20000, 20001, 10 ** 11):
            self.check(paper[:4] + (steps,), steps == whole.steps)
        near = (Thing(whole.thing, NIL), Thing(NIL, whole.thing), whole.thing.head(), whole.thing.tail())
        for told in (NIL, ONE, *near):
            self.check(("run", program, thing, told, whole.steps), told == whole.thing)
        for other in (NIL, ONE, number(2), left(3), whole.thing):
            found = run(program, other, 20000)
            self.check(("run", program, other, whole.thing, whole.steps),
                       found.word == "ended" and (found.steps, found.thing) == (whole.steps, whole.thing))

    def test_told_ones(self):
        for text, thing in (("", NIL), ("", left(3)), ("a = (..)", NIL), ("a = pair a a", ONE), ("a = .", ONE),
                            ("while a [ b = pair b a ; a = second a ] ; a = pair b a", number(3))):
            self.check_run(read_program(text), thing)

    def test_truths_are_no_numbers(self):
        self.check(("run", Program((TOLD,)), ONE, NIL, 1), True)
        self.check(("run", Program((TOLD,)), ONE, NIL, True), False)
        self.check(("run", Program(()), ONE, ONE, 0), True)
        self.check(("run", Program(()), ONE, ONE, False), False)

    def test_twenty_thousand_steps(self):
        self.check(("run", Program(lasting(20000)), ONE, ONE, 20000), True)
        self.check(("run", Program(lasting(20001)), ONE, ONE, 20001), False)
        self.check(("run", Program(lasting(19999)), ONE, ONE, 19999), True)
        self.check(("run", Program(lasting(20001)), ONE, ONE, 20000), False)

    def test_any_size(self):
        self.check(("run", Program((TOLD,) * 4000), left(4000), NIL, 4000), True)
        self.check(("run", Program((TOLD,) * 4000), left(4000), NIL, 3999), False)
        self.check(("run", Program((("told", 0, full(11)),)), left(4000), full(11), 1), True)
        for thing in (left(4000), right(4000), zigzag(4000)):
            self.check(("run", Program(()), thing, thing, 0), True)
            self.check(("run", Program(()), thing, left(3999, ONE) if thing == left(4000) else left(4000), 0),
                       thing == left(4000))
        many = (("told", 1, left(4000)),) * 4000
        self.check(("run", Program(many), NIL, NIL, 4000), True)

    def test_runs_that_do_not_end(self):
        for program in (FOR_EVER, GROWING, read_program("while a [ a = pair a a ]")):
            for steps in (-1, -20000, 0, 1, 2, 11, 12, 20000):
                self.check(("run", program, ONE, ONE, steps), False)

    def test_drawn_ones(self):
        chance = source("run papers")
        for _ in range(200):
            program, thing = draw_program(chance, chance.randint(0, 10)), draw_thing(chance, chance.randint(0, 9))
            whole = run(program, thing, 300)
            if whole.word == "ended":
                self.check_run(program, thing)


class AgainTest(Papers):
    def check_again(self, program, thing, most=24):
        """Every early and late up to some number of steps, beside the stands themselves."""
        found = stands(program, thing, most + 1)
        for early in range(-1, most + 1):
            for later in range(-1, most + 1):
                right_one = 0 <= early < later < len(found) and found[early] == found[later]
                self.check(("again", program, thing, early, later), right_one)

    def test_told_ones(self):
        for program, thing in ((FOR_EVER, ONE), (FOR_EVER, NIL), (ROUND, ONE), (ROUND, left(2)), (GROWING, ONE),
                               (TAILS, number(4)), (Program(()), ONE), (read_program("while a [ a = pair a a ]"), ONE),
                               (read_program("c = (..) ; while c [ d = pair a b ; a = second d ; b = first d ]"), ONE)):
            self.check_again(program, thing)

    def test_bent_ones(self):
        for paper in (("again", FOR_EVER, ONE, 0, 1), ("again", ROUND, left(2), 3, 6)):
            self.check(paper, True)
            self.check_bent(paper)
            self.check((*paper[:2], NIL, *paper[3:]), False)
            self.check((paper[0], GROWING, *paper[2:]), False)
            self.check(("run", *paper[1:]), False)
            self.check(("closed", *paper[1:]), False)

    def test_truths_are_no_numbers(self):
        self.check(("again", FOR_EVER, ONE, False, 1), False)
        self.check(("again", FOR_EVER, ONE, 0, True), False)
        self.check(("again", FOR_EVER, ONE, False, True), False)

    def test_twenty_thousand_steps(self):
        self.check(("again", FOR_EVER, ONE, 0, 20000), True)
        self.check(("again", FOR_EVER, ONE, 19999, 20000), True)
        self.check(("again", FOR_EVER, ONE, 0, 20001), False)
        self.check(("again", FOR_EVER, ONE, 20000, 20001), False)
        self.check(("again", FOR_EVER, ONE, 10 ** 11, 10 ** 11 + 1), False)
        self.check(("again", FOR_EVER, ONE, 0, 10 ** 11), False)
        program = Program(lasting(19998) + (("told", 0, ONE), ("while", 0, ())))
        self.check(("again", program, NIL, 19999, 20000), True)
        self.check(("again", program, NIL, 19998, 20000), False)

    def test_any_size(self):
        program = Program((TOLD,) * 3998 + (("told", 0, left(4000)), ("while", 0, ())))
        self.check(("again", program, right(4000), 3999, 4000), True)
        self.check(("again", program, right(4000), 3998, 4000), False)
        for thing in (left(4000), zigzag(4000)):
            self.check(("again", FOR_EVER, thing, 0, 1), True)

    def test_drawn_ones(self):
        chance = source("again papers")
        for _ in range(60):
            program = draw_program(chance, chance.randint(1, 8), names=chance.randint(1, 3))
            self.check_again(program, draw_thing(chance, chance.randint(0, 6)), 12)


class ClosedTest(Papers):
    def paper(self, program, thing, depth):
        return ("closed", program, thing, depth, closed(program, thing, depth, 500))

    def test_each_depth(self):
        for depth in (1, 2, 3, 4):
            for program, thing in ((FOR_EVER, ONE), (GROWING, ONE), (ROUND, number(3)), (needs_depth(depth), NIL)):
                paper = self.paper(program, thing, depth)
                self.check(paper, True)
                self.check_bent(paper)
                for other in (depth - 1, depth + 1, 0, 5, -1, True, False, None, str(depth)):
                    # Of a set without deep cut things another depth may be right, too.
                    if other in (1, 2, 3, 4) and other is not True:
                        continue
                    self.check((*paper[:3], other, paper[4]), False)
                self.check((*paper[:4], tuple(paper[4])), False)
                self.check((*paper[:4], []), False)
                self.check((*paper[:2], NIL, *paper[3:]), thing == NIL)

    def test_another_depth(self):
        for depth in (1, 2, 3, 4):
            stands_there = [(0, (plain_cut(right(9), depth),) + ((),) * 9)]
            for other in (1, 2, 3, 4):
                self.check(("closed", FOR_EVER, right(9), other, stands_there), depth == other)
        # Yes is cut no more from depth 2 on.
        for depth in (2, 3, 4):
            self.check(("closed", FOR_EVER, ONE, depth, [(0, (((), ()),) + ((),) * 9)]), True)
        self.check(("closed", FOR_EVER, ONE, 1, [(0, (((), ()),) + ((),) * 9)]), False)

    def test_one_left_out(self):
        for depth in (1, 2, 3):
            for program, thing in ((GROWING, ONE), (ROUND, number(3)), (needs_depth(depth), NIL)):
                paper = self.paper(program, thing, depth)
                for at in range(len(paper[4])):
                    self.check((*paper[:4], paper[4][:at] + paper[4][at + 1:]), False)

    def test_order_and_twice(self):
        paper = self.paper(GROWING, ONE, 2)
        self.check((*paper[:4], paper[4][::-1]), True)
        self.check((*paper[:4], paper[4] * 2), True)
        self.check((*paper[:4], paper[4] + paper[4][:1]), True)
        self.check((*paper[:4], paper[4][1:] * 2), False)

    def test_one_more(self):
        paper = self.paper(GROWING, ONE, 1)
        pair = (None, None)
        # Nothing needs it, but from it, too, no step leads out of the set.
        more = (1, (pair, None) + ((),) * 8)
        self.assertEqual([stand in paper[4] for stand in cut_steps(GROWING, more, 1)], [True])
        self.check((*paper[:4], paper[4] + [more]), True)
        self.check((*paper[:4], [more] + paper[4]), True)
        # From these one leads out of it: to the end, to another that isn't there.
        for more in ((0, ((),) * 10), (0, (None,) + ((),) * 9), (1, (pair, (), pair) + ((),) * 7)):
            self.check((*paper[:4], paper[4] + [more]), False)

    def test_the_end(self):
        # A run that ends has no closed set, with the end in it or without.
        for program, thing in ((TAILS, ONE), (Program(()), NIL), (Program((TOLD,)), NIL)):
            for depth in (1, 2, 3, 4):
                found = [(0, (plain_cut(thing, depth),) + ((),) * 9)]
                for stand in found:
                    for later in plain_steps(program, stand, depth):
                        if later not in found:
                            found.append(later)
                self.check(("closed", program, thing, depth, found), False)
                self.check(("closed", program, thing, depth, [told for told in found if told[0] < len(program)]), False)

    def test_wrong_points(self):
        cuts = ((None, None),) + ((),) * 9
        two = read_program("while a [ b = . ]")
        self.check(("closed", two, ONE, 1, [(0, cuts), (1, cuts)]), True)
        for point in (True, "1", None, 2, 3, -1, 10 ** 11, [1], (1,), NIL):
            self.check(("closed", two, ONE, 1, [(0, cuts), (point, cuts)]), False)
            self.check(("closed", two, ONE, 1, [(0, cuts), (1, cuts), (point, cuts)]), False)
        for point in (False, None, 1, -1):
            self.check(("closed", FOR_EVER, ONE, 1, [(point, cuts)]), False)
            self.check(("closed", FOR_EVER, ONE, 1, [(0, cuts), (point, cuts)]), False)

    def test_wrong_cuts(self):
        pair, right_one = (None, None), (0, ((None, None),) + ((),) * 9)
        self.check(("closed", FOR_EVER, ONE, 1, [right_one]), True)
        for cuts in ((pair,) + ((),) * 8, (pair,) + ((),) * 10, [pair] + [()] * 9, (), None, pair,
                     (pair,) + ((),) * 8 + ([],), (pair,) + ((),) * 8 + (0,), (pair,) + ((),) * 8 + (False,),
                     (pair,) + ((),) * 8 + ("",), (pair,) + ((),) * 8 + (NIL,), (list(pair),) + ((),) * 9,
                     (pair,) + ((),) * 8 + ((None,),), (pair,) + ((),) * 8 + ((None,) * 3,),
                     (pair,) + ((),) * 8 + (((), None),), (pair,) + ((),) * 8 + (((), ()),),
                     (pair,) + ((),) * 8 + ((None, [None]),), (pair,) + ((),) * 8 + ((None, True),)):
            self.check(("closed", FOR_EVER, ONE, 1, [(0, cuts)]), False)
            self.check(("closed", FOR_EVER, ONE, 1, [right_one, (0, cuts)]), False)
            self.check(("closed", FOR_EVER, ONE, 1, [(0, cuts), right_one]), False)
        for stand in (None, 0, "", [], (), (0,), [0, right_one[1]], (0, right_one[1], 0), (right_one[1], 0),
                      (right_one,), [right_one], NIL, FOR_EVER, True):
            self.check(("closed", FOR_EVER, ONE, 1, [right_one, stand]), False)
            self.check(("closed", FOR_EVER, ONE, 1, [stand]), False)

    def test_cuts_deeper_than_the_depth(self):
        for depth in (1, 2, 3, 4):
            cuts = (plain_cut(right(9), depth),) + ((),) * 9
            self.check(("closed", FOR_EVER, right(9), depth, [(0, cuts)]), True)
            for deep, told in ((depth, True), (depth + 1, False), (depth + 2, False)):
                # This one is not come to, but stands there: from it, too, each step leads to itself.
                more = (0, cuts[:9] + (plain_cut(left(9), deep),))
                self.check(("closed", FOR_EVER, right(9), depth, [(0, cuts), more]), told)

    def test_less_is_told_by_another_stand(self):
        # The beginning's own stands there or the paper isn't right, even where one says less of it.
        self.check(("closed", FOR_EVER, ONE, 1, [(0, ((None, None), None) + ((),) * 8)]), False)

    def test_any_size(self):
        program = Program((("while", 0, (("told", 1, left(4000)),) * 600),))
        found = closed(program, right(4000), 1, 700)
        self.assertEqual(len(found), 603)
        self.check(("closed", program, right(4000), 1, found), True)
        self.check(("closed", program, right(4000), 1, found[:-1]), False)

    def test_drawn_ones(self):
        chance = source("closed papers")
        seen = 0
        for _ in range(300):
            program = draw_program(chance, chance.randint(1, 8), names=chance.randint(1, 3), told=6)
            thing, depth = draw_thing(chance, chance.randint(0, 8)), chance.randint(1, 4)
            found = closed(program, thing, depth, 60)
            if found is None:
                continue
            seen += 1
            self.check(("closed", program, thing, depth, found), True)
            at = chance.randrange(len(found))
            self.check(("closed", program, thing, depth, found[:at] + found[at + 1:]), False)
        self.assertGreater(seen, 20)


class LateTest(Papers):
    def test_told_ones(self):
        for text in ("", "b = .", "a = .", "while a [ a = second a ]"):
            bounder = read_program(text)
            word, made, paper = late(bounder)
            self.assertEqual(word, "late")
            self.check(paper, True)
            self.check_bent(paper)
            # Exchanged: the late one, as a bounder, says none.
            self.check(("late", made, bounder), run(bounder, NIL).steps > 0)

    def test_just_as_many_steps_and_one_more(self):
        for many in (0, 1, 3, 100):
            bounder = Program((("told", 0, number(many)),))
            self.check(("late", bounder, Program((TOLD,) * many)), False)
            self.check(("late", bounder, Program((TOLD,) * (many + 1))), True)
            # The row's things are counted, not its pairs.
            bounder = Program((("told", 0, right(many, NIL) if many == 0 else Thing(left(50), number(many - 1))),))
            self.check(("late", bounder, Program((TOLD,) * many)), False)
            self.check(("late", bounder, Program((TOLD,) * (many + 1))), True)

    def test_the_bounder_is_asked_of_the_number_of_deeds(self):
        same = Program(())
        # It says that n deeds take at most n steps.
        self.check(("late", same, Program((TOLD,) * 5)), False)
        self.check(("late", same, read_program("a = (..) ; while a [ a = second a ]")), True)
        self.check(("late", same, read_program("a = . ; while a [ a = second a ]")), False)

    def test_200_and_201_deeds(self):
        none = Program((("told", 0, NIL),))
        self.check(("late", none, Program((TOLD,) * 200)), True)
        self.check(("late", none, Program((TOLD,) * 201)), False)
        self.check(("late", Program((TOLD,) * 201), Program((TOLD,) * 200)), True)
        self.check(("late", Program((TOLD,) * 4000), Program((TOLD,))), True)
        self.check(("late", none, Program(())), False)

    def test_the_program_s_run_is_on_nil(self):
        self.check(("late", read_program("a = ."), read_program("while a [ ]")), True)
        self.check(("late", read_program("a = ."), read_program("if a [ ] [ a = (..) ] ; while a [ ]")), False)

    def test_runs_of_20000_steps(self):
        none = Program((TOLD,))
        for steps, told in ((19999, True), (20000, True), (20001, False)):
            program = Program(lasting(steps))
            if len(program) <= 200:
                self.check(("late", none, program), told)
            self.check(("late", Program(lasting(steps - 1) + (TOLD,)), Program((TOLD,))), told)
        self.check(("late", none, FOR_EVER), True)
        self.check(("late", FOR_EVER, Program((TOLD,))), False)
        self.check(("late", Program((("pair", 0, 0, 0),) * 13), Program((TOLD,))), False)


class ToldTest(Papers):
    def test_all_that_endless_tells(self):
        chance = source("papers of endless")
        seen = {"again": 0, "closed": 0}
        for _ in range(400):
            program = draw_program(chance, chance.randint(1, 12), names=chance.randint(1, 5))
            thing, budget = draw_thing(chance, chance.randint(0, 20)), chance.choice([0, 10, 100, 2000])
            paper = endless(program, thing, budget)
            if paper is not None:
                seen[paper[0]] += 1
                self.check(paper, True)
                self.assertNotEqual(run(program, thing, 20000).word, "ended")
        self.assertGreater(min(seen.values()), 10, seen)
        for late_one in (20000, 19000):
            program = Program(lasting(late_one - 2) + (("told", 0, ONE), ("while", 0, ())))
            self.check(endless(program, NIL, 20000), True)
            self.assertEqual(again(program, NIL, 20000), (late_one - 1, late_one))

    def test_no_run_has_both(self):
        chance = source("both papers")
        for _ in range(200):
            program = draw_program(chance, chance.randint(0, 10), names=3)
            thing = draw_thing(chance, chance.randint(0, 8))
            whole = run(program, thing, 2000)
            if whole.word == "ended":
                self.check(("run", program, thing, whole.thing, whole.steps), True)
                for early in range(0, min(6, whole.steps)):
                    self.check(("again", program, thing, early, whole.steps), False)
                for depth in (1, 2, 3, 4):
                    self.assertIsNone(closed(program, thing, depth))

    def test_bent_papers_are_bent(self):
        self.assertGreater(len(list(bent(("again", FOR_EVER, ONE, 0, 1)))), 40)


if __name__ == "__main__":
    unittest.main()
