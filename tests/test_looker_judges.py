"""The looker and the papers of judges: points 23 to 25 of the document, for "slip" and "twins"."""

import unittest

from judgeslip.codes import code_of
from judgeslip.endless import endless
from judgeslip.errors import NoRoom
from judgeslip.owns import own_code
from judgeslip.programs import Program
from judgeslip.runs import run
from judgeslip.slips import slip
from judgeslip.things import Thing, number
from judgeslip.twins import twins
from judgeslip.words import read_program
from cutting import needs_depth
from drawing import draw_coded, draw_thing, lasting, source
from papers import Papers
from shapes import NIL, ONE, left, right

YES = read_program("a = (..)")
NO = read_program("a = .")
FOR_EVER = read_program("while a [ ]")
GROWING = read_program("while a [ b = pair b a ]")
TAILS = read_program("while a [ a = second a ]")
TOLD = ("told", 0, NIL)
PAIRED = ("pair", 0, 0, 0)
# Says yes of a code whose first deed isn't told.
FIRST_KIND = read_program("a = first a ; a = first a")
OTHER = Program((PAIRED,))


class SlipTest(Papers):
    def test_ends(self):
        for inner in (("again", FOR_EVER, ONE, 0, 1), ("again", FOR_EVER, ONE, 3, 9), endless(FOR_EVER, ONE, 0)):
            paper = ("slip", YES, ONE, FOR_EVER, "ends", inner)
            self.check(paper, True)
            self.check_bent(paper)
            self.check(("slip", NO, *paper[2:]), False)
            self.check((*paper[:2], NIL, *paper[3:]), False)
            self.check((*paper[:2], number(2), *paper[3:]), False)
            self.check((*paper[:3], GROWING, *paper[4:]), False)
            for word in ("doesn't", "silent", "open", "", "ends ", "Ends", "end"):
                self.check((*paper[:4], word, inner), False)

    def test_ends_not(self):
        whole = run(TAILS, number(3))
        inner = ("run", TAILS, number(3), whole.thing, whole.steps)
        paper = ("slip", NO, number(3), TAILS, "doesn't", inner)
        self.check(paper, True)
        self.check_bent(paper)
        self.check(("slip", YES, *paper[2:]), False)
        self.check((*paper[:2], number(2), *paper[3:]), False)
        for word in ("ends", "silent", "open", "doesnt", "doesn't "):
            self.check((*paper[:4], word, inner), False)
        self.check((*paper[:5], (*inner[:4], whole.steps + 1)), False)
        self.check((*paper[:5], (*inner[:3], ONE, whole.steps)), False)

    def test_silent(self):
        program = read_program("a = pair a a")
        asked = Thing(code_of(program), ONE)
        for judge in (FOR_EVER, GROWING):
            inner = endless(judge, asked)
            self.assertIsNotNone(inner)
            paper = ("slip", judge, ONE, program, "silent", inner)
            self.check(paper, True)
            self.check_bent(paper)
            self.check((*paper[:2], NIL, *paper[3:]), False)
            self.check((*paper[:3], TAILS, *paper[4:]), False)
            # The paper is of the judge and the pair of code and thing, not of the program or the thing alone.
            self.check((*paper[:5], endless(judge, ONE)), False)
            self.check((*paper[:5], endless(judge, Thing(ONE, code_of(program)))), False)
            for word in ("ends", "doesn't", "open"):
                self.check((*paper[:4], word, inner), False)
        self.check(("slip", GROWING, ONE, program, "silent", endless(FOR_EVER, asked)), False)

    def test_inner_papers_of_another_sort(self):
        run_of = ("run", TAILS, ONE, NIL, 3)
        again_of = ("again", FOR_EVER, ONE, 0, 1)
        self.check(run_of, True)
        self.check(again_of, True)
        late_of = ("late", NO, TAILS)
        self.check(late_of, True)
        whole = ("slip", YES, ONE, FOR_EVER, "ends", again_of)
        for word in ("ends", "doesn't", "silent"):
            for judge in (YES, NO, FOR_EVER):
                for inner in (late_of, whole, None, True, "run", [], (), list(again_of), NIL, FOR_EVER):
                    self.check(("slip", judge, ONE, FOR_EVER, word, inner), False)
        # A run where an endless one is due, and the other way round.
        self.check(("slip", YES, ONE, TAILS, "ends", run_of), False)
        self.check(("slip", NO, ONE, FOR_EVER, "doesn't", again_of), False)
        self.check(("slip", NO, ONE, TAILS, "doesn't", run_of), True)
        asked = Thing(code_of(TAILS), ONE)
        self.check(("slip", TAILS, ONE, TAILS, "silent", ("run", TAILS, asked, NIL, run(TAILS, asked).steps)), False)

    def test_inner_papers_of_another_program_or_thing(self):
        self.check(("slip", YES, ONE, FOR_EVER, "ends", ("again", FOR_EVER, number(2), 0, 1)), False)
        other = read_program("while a [ if b [ ] [ ] ]")
        self.check(("again", other, ONE, 0, 2), True)
        self.check(("slip", YES, ONE, FOR_EVER, "ends", ("again", other, ONE, 0, 2)), False)
        self.check(("slip", NO, ONE, TAILS, "doesn't", ("run", TAILS, NIL, NIL, 1)), False)
        self.check(("slip", NO, ONE, TAILS, "doesn't", ("run", NO, ONE, NIL, 1)), False)

    def test_inner_papers_that_are_wrong(self):
        for inner in (("again", FOR_EVER, ONE, 1, 1), ("again", FOR_EVER, ONE, 0, True), ("again", FOR_EVER, ONE, 0),
                      ("again", FOR_EVER, ONE, 0, 20001), ("closed", FOR_EVER, ONE, 1, []), ("again",),
                      ("closed", FOR_EVER, ONE, 1, [(False, ((None, None),) + ((),) * 9)])):
            self.check(("slip", YES, ONE, FOR_EVER, "ends", inner), False)

    def test_judges_that_say_nothing(self):
        inner = ("again", FOR_EVER, ONE, 0, 1)
        for judge in (FOR_EVER, GROWING, read_program("while a [ a = pair a a ]")):
            self.check(("slip", judge, ONE, FOR_EVER, "ends", inner), False)
            self.check(("slip", judge, ONE, TAILS, "doesn't", ("run", TAILS, ONE, NIL, 3)), False)

    def test_judges_of_20000_steps(self):
        inner = ("again", FOR_EVER, ONE, 0, 1)
        for steps, told in ((19999, True), (20000, True), (20001, False)):
            judge = Program(lasting(steps - 1) + (("told", 0, ONE),))
            self.check(("slip", judge, ONE, FOR_EVER, "ends", inner), told)
            judge = Program(lasting(steps - 1) + (TOLD,))
            self.check(("slip", judge, ONE, TAILS, "doesn't", ("run", TAILS, ONE, NIL, 3)), told)

    def test_what_is_too_great(self):
        great = Program((("told", 0, left(4000)),))
        self.check(("slip", NO, NIL, great, "doesn't", ("run", great, NIL, left(4000), 1)), False)
        room = 4000 - 1 - len(code_of(NO))
        for many, told in ((room, True), (room + 1, False), (4000, False)):
            self.check(("slip", NO, right(many), NO, "doesn't", ("run", NO, right(many), NIL, 1)), told)
        many = Program((TOLD,) * 4000)
        self.check(("slip", NO, NIL, many, "doesn't", ("run", many, NIL, NIL, 4000)), False)
        many = Program((TOLD,) * 999)
        self.check(("slip", NO, NIL, many, "doesn't", ("run", many, NIL, NIL, 999)), True)
        # A judge's own code is never asked for.
        self.check(("slip", Program((TOLD,) * 4000), ONE, TAILS, "doesn't", ("run", TAILS, ONE, NIL, 3)), True)

    def test_all_that_slip_tells(self):
        chance = source("papers of slip")
        seen = {"ends": 0, "doesn't": 0, "silent": 0, "open": 0}
        for _ in range(150):
            judge = draw_coded(chance, chance.randint(0, 120), names=chance.randint(1, 10), told=20)
            thing = draw_thing(chance, chance.choice([0, 1, 10, 200]))
            word, made, paper = slip(judge, thing, chance.choice([20, 300, 4000]))
            seen[word] += 1
            if paper is not None:
                self.check(paper, True)
                self.check(("slip", judge, thing, made, word, paper), True)
                for other in seen:
                    self.check(("slip", judge, thing, made, other, paper), other == word)
        self.assertGreater(min(seen[word] for word in ("ends", "doesn't", "silent")), 3, seen)
        for told in (ONE, NIL):
            judge = Program(lasting(9999) + (("told", 0, told),))
            word, made, paper = slip(judge, ONE, 10000)
            self.check(("slip", judge, ONE, made, word, paper), True)


class TwinsTest(Papers):
    def check_told(self, judge, one, other):
        word, made, like, count = twins(judge, one, other)
        self.assertEqual(word, "twins")
        paper = ("twins", judge, made, like, count)
        self.check(paper, True)
        self.check_bent(paper)
        for more in (-1, 1, -count, 20000, 10 ** 11):
            self.check((*paper[:4], count + more), False)
        self.check((*paper[:4], 0), False)
        self.check((*paper[:4], -1), False)
        self.check(("twins", judge, like, made, count), False)
        self.check(("twins", judge, made, made, count), False)
        self.check(("twins", judge, made, one if like == other else other, count), False)
        for same in (YES, NO, FOR_EVER):
            self.check(("twins", same, *paper[2:]), False)

    def test_told_ones(self):
        one, other = read_program("a = pair a a ; b = pair a b ; a = first b"), read_program("a = .")
        self.check_told(FIRST_KIND, one, other)
        self.check_told(FIRST_KIND, other, one)
        self.check_told(read_program("a = second a"), one, other)
        self.check_told(read_program("a = second a"), other, one)

    def check_ahead(self, deeds, told, count=None, other=OTHER):
        """Whether a paper is right by which a program does these deeds ahead of the other's."""
        # The judge says no of the one, as its first deed is told, and yes of the other one, whose isn't.
        one = Program((("told", 5, NIL),) + deeds + other.deeds)
        many = 1 + len(deeds) if count is None else count
        self.check(("twins", FIRST_KIND, one, other, many), told)

    def test_nothing_of_the_mark(self):
        self.check_ahead((), True)
        self.check_ahead((), False, 0)
        self.check_ahead((), False, 2)
        self.check_ahead((("told", 1, ONE), ("pair", 2, 1, 1), ("same", 3, 1, 2)), True)
        self.check_ahead((("told", 1, ONE), ("while", 1, (("second", 1, 1),))), True, 5)
        self.check_ahead((("if", 1, (TOLD,), (("told", 1, ONE),)), ("first", 1, 1)), True, 4)

    def test_taking_the_mark_s_head_or_tail(self):
        for kind in ("first", "second"):
            self.check_ahead(((kind, 1, 0),), False)
            self.check_ahead(((kind, 0, 0),), False)
            self.check_ahead((("pair", 1, 0, 0), (kind, 1, 1), (kind, 1, 1)), False)
            # Of a pair that has the mark in it there is nothing wrong.
            self.check_ahead((("pair", 1, 0, 0), (kind, 1, 1)), True)
            self.check_ahead((("pair", 1, 2, 0), ("first", 3, 1), ("first", 3, 3)), True)

    def test_looking_at_the_mark(self):
        for deed in (("while", 0, ()), ("if", 0, (), ()), ("while", 0, (TOLD,)), ("if", 0, (TOLD,), (TOLD,))):
            for count in (1, 2, 3):
                self.check_ahead((deed,), False, count)
        self.check_ahead((("pair", 1, 0, 0), ("first", 1, 1), ("if", 1, (), ())), False)
        self.check_ahead((("pair", 1, 0, 0), ("if", 1, (), ())), True)
        self.check_ahead((("pair", 1, 0, 0), ("while", 1, (("told", 1, NIL),))), True, 5)
        self.check_ahead((("while", 1, ()),), True)

    def test_comparing_the_mark(self):
        self.check_ahead((("same", 1, 0, 0),), True)
        self.check_ahead((("same", 1, 0, 2),), False)
        self.check_ahead((("same", 1, 2, 0),), False)
        self.check_ahead((("told", 2, ONE), ("same", 1, 2, 0)), False)
        two = (("pair", 1, 0, 4), ("pair", 2, 0, 4), ("pair", 3, 4, 0), ("pair", 6, 0, 0))
        self.check_ahead(two + (("same", 7, 1, 2),), True)
        self.check_ahead(two + (("same", 7, 1, 1),), True)
        for name, other in ((1, 3), (1, 6), (3, 6), (0, 1), (1, 0), (4, 1), (1, 4), (6, 2), (3, 4), (4, 3), (8, 6)):
            self.check_ahead(two + (("same", 7, name, other),), False)
        # What is seen is that they are the same: yes, so the while goes round.
        self.check_ahead(two + (("same", 7, 1, 2), ("while", 7, (("second", 7, 7),))), True, 9)
        self.check_ahead((("same", 7, 0, 0), ("if", 7, (), (TOLD,))), True)

    def test_where_it_stands_then(self):
        # Name 0 is the mark, and each other name of the other's nil.
        other = Program((("pair", 0, 0, 3), ("pair", 0, 0, 4)))
        self.check_ahead((), True, other=other)
        self.check_ahead((TOLD,), False, other=other)
        self.check_ahead((("pair", 0, 0, 0),), False, other=other)
        self.check_ahead((("pair", 0, 0, 0), ("first", 0, 0)), True, other=other)
        self.check_ahead((("pair", 1, 0, 2), ("told", 0, NIL), ("second", 0, 1)), False, other=other)
        for name in range(1, 10):
            self.check_ahead((("told", name, ONE),), name not in (3, 4), other=other)
            self.check_ahead((("told", name, ONE), ("told", name, NIL)), True, other=other)
            self.check_ahead((("pair", name, 0, 9), ("first", name, name)), name not in (3, 4), other=other)
        for name in range(1, 10):
            other = Program((("pair", 0, 0, name),))
            self.check_ahead((("told", name, ONE),), False, other=other)
            self.check_ahead((("told", name % 9 + 1, ONE),), True, other=other)
        # Even where the other one has no name 0 in it.
        other = Program((("pair", 3, 4, 4),))
        self.check_ahead((), True, other=other)
        self.check_ahead((TOLD,), False, other=other)

    def test_the_rest_of_its_row(self):
        told, other = ("told", 5, NIL), Program((PAIRED, ("second", 0, 0)))
        for deeds, count, right_one in (
                ((told,) + other.deeds, 1, True), ((told,) + other.deeds + (TOLD,), 1, False),
                ((told,) + other.deeds[:1], 1, False), ((told, told) + other.deeds, 2, True),
                ((told, told) + other.deeds, 1, False),
                ((told, ("if", 1, (TOLD,), other.deeds)), 2, True),
                ((told, ("if", 1, (), (told,) + other.deeds)), 3, True),
                ((told, ("if", 1, (), other.deeds), told), 2, False),
                ((told, ("if", 1, (), other.deeds + (told,))), 2, False),
                ((told, ("if", 1, (), (("if", 1, (), other.deeds),))), 3, True),
                ((told, ("if", 1, (), (("if", 1, (), other.deeds), told))), 3, False),
                ((told, ("told", 1, ONE), ("if", 1, other.deeds, ())), 3, True),
                ((told, ("told", 1, ONE), ("if", 1, other.deeds, ()), told), 3, False),
                ((told, ("told", 1, ONE), ("if", 1, (("if", 1, other.deeds, ()),), (TOLD,))), 4, True),
                ((told, ("told", 1, ONE), ("while", 1, other.deeds)), 3, False),
                ((told, ("told", 1, ONE), ("while", 1, (("if", 1, other.deeds, ()),))), 4, False),
                ((told, ("told", 1, ONE), ("if", 1, (("while", 1, other.deeds),), ())), 4, False),
                ((told, ("if", 1, (), ())) + other.deeds, 2, True)):
            self.check(("twins", FIRST_KIND, Program(deeds), other, count), right_one)

    def test_the_other_s_deeds_begin_with_a_while(self):
        other = Program((("while", 3, (PAIRED,)), PAIRED))
        self.check_ahead((), True, other=other)
        # Here it stands at that while again, behind a round of it.
        one = Program((("told", 5, NIL), ("told", 3, ONE), ("while", 3, (("second", 3, 3),)), PAIRED))
        rest = Program(one.deeds[2:])
        self.check(("twins", FIRST_KIND, one, rest, 2), False)
        self.check(("twins", FIRST_KIND, one, rest, 4), True)
        self.check(("twins", FIRST_KIND, one, rest, 3), False)

    def test_one_deed_at_least(self):
        # The judge says no of no deeds, and yes of others.
        judge = Program((("pair", 0, 0, 1), ("first", 0, 0)))
        one, none = Program((("told", 1, NIL),)), Program(())
        self.check(("twins", judge, one, none, 1), False)
        self.check(("twins", judge, none, none, 0), False)
        self.check(("twins", judge, none, one, 0), False)

    def test_what_the_judge_says(self):
        one, other = Program((("told", 5, NIL), PAIRED)), OTHER
        self.check(("twins", FIRST_KIND, one, other, 1), True)
        # Either way round: yes of the one and no of the other.
        turned = Program((("told", 1, code_of(one)), ("same", 0, 0, 1)))
        self.check(("twins", turned, one, other, 1), True)
        stuck = Program(FIRST_KIND.deeds + (("while", 0, ()),))
        great = Program(FIRST_KIND.deeds + (("while", 0, (PAIRED,)),))
        for judge in (YES, NO, FOR_EVER, GROWING, Program(()), stuck, great):
            self.check(("twins", judge, one, other, 1), False)
        self.check(("twins", FIRST_KIND, one, Program((PAIRED, PAIRED)), 1), False)

    def test_judges_of_20000_steps(self):
        one, other = Program((("told", 5, NIL), PAIRED)), OTHER
        for steps, told in ((19999, True), (20000, True), (20001, False)):
            judge = Program(lasting(steps - 2) + FIRST_KIND.deeds)
            self.check(("twins", judge, one, other, 1), told)

    def test_counts_of_20000_steps(self):
        for count, told in ((100, True), (19999, True), (20000, True), (20001, False)):
            one = Program(lasting(count) + (PAIRED,))
            self.check(("twins", FIRST_KIND, one, OTHER, count), told)
            self.check(("twins", FIRST_KIND, one, OTHER, count - 1), False)

    def test_truths_are_no_numbers(self):
        one = Program((("told", 5, NIL), PAIRED))
        self.check(("twins", FIRST_KIND, one, OTHER, 1), True)
        self.check(("twins", FIRST_KIND, one, OTHER, True), False)

    def test_the_mark_counts_no_pairs(self):
        # 2,047 pairs, and one mark more.
        doubled = (("pair", 1, 0, 0),) + (("pair", 1, 1, 1),) * 10
        self.check_ahead(doubled, True)
        self.check_ahead(doubled + (("pair", 1, 1, 1),), False)

    def test_just_4000_pairs_around_the_mark(self):
        # 1,999 pairs twice, one for both, and then the mark: 4,000.
        fill = (("told", 1, right(999)), ("pair", 1, 1, 1), ("pair", 1, 1, 1), ("pair", 1, 1, 0))
        self.check_ahead(fill, True)
        self.check_ahead(fill + (("pair", 2, 1, 0),), False)

    def test_codes_too_great(self):
        great = Program((("told", 0, left(4000)),))
        one = Program((("told", 5, NIL),) + great.deeds)
        self.check(("twins", YES, one, great, 1), False)
        many = Program((TOLD,) * 3999)
        self.check(("twins", FIRST_KIND, Program((("told", 5, NIL),) + many.deeds), many, 1), False)
        # The judge's own code is never asked for.
        judge = Program(FIRST_KIND.deeds + (("told", 1, left(4000)),) * 3)
        self.check(("twins", judge, Program((("told", 5, NIL), PAIRED)), OTHER, 1), True)

    def test_all_that_twins_tells(self):
        chance = source("papers of twins")
        seen = 0
        for at in range(250):
            one, other = (Program(draw_coded(chance, 60, names=8).deeds or (TOLD,)) for _ in range(2))
            tail = draw_coded(chance, 60, names=8, told=10).deeds
            judge = Program(tail if at % 2 else FIRST_KIND.deeds + tail[:2])
            try:
                word, made, like, count = twins(judge, one, other)
            except NoRoom:
                continue
            if word == "twins":
                seen += 1
                self.check(("twins", judge, made, like, count), True)
                self.check(("twins", judge, made, like, count + 1), False)
                self.check(("twins", judge, made, one if like == other else other, count), False)
        self.assertGreater(seen, 40)
        judge = Program(lasting(9990) + FIRST_KIND.deeds)
        _, made, like, count = twins(judge, OTHER, NO, 10000)
        self.check(("twins", judge, made, like, count), True)

    def test_own_codes_are_no_twins_of_what_looks_at_them(self):
        # It stands with its own code beside the input, so name 0 isn't the mark.
        made, count = own_code(OTHER)
        self.check(("twins", FIRST_KIND, made, OTHER, count), False)

    def test_a_set_that_needs_depth(self):
        judge = needs_depth(3)
        word, made, paper = slip(judge, ONE)
        self.check(("slip", judge, ONE, made, word, paper), True)
        self.check(("slip", judge, ONE, made, word, (*paper[:3], 2, paper[4])), False)


if __name__ == "__main__":
    unittest.main()
