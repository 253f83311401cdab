"""Judges of ending and their slips: point 19 of the document, and what 3 promises of them."""

import unittest

from judgeslip.codes import code_of
from judgeslip.endless import again, endless
from judgeslip.errors import TooGreat
from judgeslip.owns import own_code
from judgeslip.programs import Program
from judgeslip.runs import Run, run, stands
from judgeslip.slips import slip
from judgeslip.things import Thing, number, row
from judgeslip.words import read_program
from cutting import needs_depth
from drawing import draw_coded, draw_thing, lasting, source
from shapes import NIL, ONE, full, left, right

YES_ALWAYS = read_program("a = (..)")
NO_ALWAYS = read_program("a = .")
INPUTS = [NIL, ONE, number(2), left(3), left(200), right(200), full(7)]
BEHIND = ("while", 0, ())


def slip_of(judge):
    return own_code(Program(judge.deeds + (BEHIND,)))[0]


class Slipping(unittest.TestCase):
    def check_slip(self, judge, thing, budget=4000):
        """All that is told of a slip is so; tells the word."""
        told = slip(judge, thing, budget)
        self.assertIs(type(told), tuple)
        word, made, paper = told
        self.assertEqual(made, slip_of(judge))
        asked = Thing(code_of(made), thing)
        said = run(judge, asked, budget)
        if said.word == "ended":
            self.assertEqual(word, "ends" if said.thing else "doesn't")
            check = self.check_ends if said.thing else self.check_ends_not
            check(made, thing, said, paper)
        else:
            self.assertEqual(paper, endless(judge, asked, budget))
            self.assertEqual(word, "open" if paper is None else "silent")
        return word

    def check_ends(self, made, thing, said, paper):
        """The judge says that it ends, and it never does."""
        self.assertEqual(len(paper), 5)
        self.assertEqual(paper[:3], ("again", made, thing))
        early, late = paper[3:]
        self.assertLess(early, late)
        self.assertLessEqual(late, said.steps + 300)
        self.assertEqual(again(made, thing, late), (early, late))
        self.assertEqual(run(made, thing, 20000).word, "open")

    def check_ends_not(self, made, thing, said, paper):
        """The judge says that it doesn't, and it does."""
        whole = run(made, thing, said.steps + 300)
        self.assertEqual(whole.word, "ended")
        self.assertEqual(paper, ("run", made, thing, whole.thing, whole.steps))


class SlipTest(Slipping):
    def test_a_pair_always(self):
        for thing in INPUTS:
            self.assertEqual(self.check_slip(YES_ALWAYS, thing), "ends")
            # What it is handed is a pair itself.
            self.assertEqual(self.check_slip(Program(()), thing), "ends")

    def test_nil_always(self):
        for thing in INPUTS:
            self.assertEqual(self.check_slip(NO_ALWAYS, thing), "doesn't")

    def test_by_the_thing(self):
        judge = read_program("a = second a")
        for thing in INPUTS:
            self.assertEqual(self.check_slip(judge, thing), "ends" if thing else "doesn't")
        judge = read_program("a = second a ; b = (.(..)) ; a = same a b")
        for thing in INPUTS:
            self.assertEqual(self.check_slip(judge, thing), "ends" if thing == number(2) else "doesn't")

    def test_by_the_code(self):
        # Whether there is any deed; whether the first one is no told; whether the second one is a while.
        second_kind = "a = first a ; a = second a ; a = first a ; a = first a"
        for text, word in (("a = first a", "ends"), ("a = first a ; a = first a ; a = first a", "doesn't"),
                           (f"{second_kind} ; b = (.(.(.(.(..))))) ; a = same a b", "doesn't")):
            for thing in INPUTS:
                self.assertEqual(self.check_slip(read_program(text), thing), word)
        # Whether the last deed is a while, as in each slip.
        judge = read_program("a = first a ; while a [ b = first a ; a = second a ] ; a = first b ; "
                             "c = (.(.(.(.(..))))) ; a = same a c")
        for thing in INPUTS:
            self.assertEqual(self.check_slip(judge, thing), "ends")

    def test_a_judge_that_knows_its_own_slip_s_length(self):
        judge = read_program("a = first a ; while a [ a = second a ; b = pair c b ] ; a = pair b c ; a = first a")
        for thing in INPUTS:
            self.assertEqual(self.check_slip(judge, thing), "ends")

    def test_silent_ones_that_come_again(self):
        for text in ("while a [ ]", "while a [ b = first a ; b = . ]", "b = second a ; while b [ ] ; a = (..)"):
            judge = read_program(text)
            word, _, paper = slip(judge, ONE)
            self.assertEqual((word, paper[0]), ("silent", "again"))
            for thing in INPUTS:
                self.check_slip(judge, thing)

    def test_silent_ones_with_a_closed_set(self):
        for depth in (1, 2, 3, 4):
            judge = needs_depth(depth)
            for budget in (0, 10, 1000, 4000):
                word, _, paper = slip(judge, ONE, budget)
                self.check_slip(judge, ONE, budget)
                self.assertEqual(word, "silent" if depth < 4 else "open")
                if depth < 4:
                    self.assertEqual((paper[0], paper[3]), ("closed", depth))
        judge = read_program("while a [ b = pair b b ; a = pair a b ]")
        self.assertEqual(run(judge, Thing(code_of(slip_of(judge)), NIL)).word, "great")
        self.assertEqual(self.check_slip(judge, NIL), "silent")

    def test_nothing_is_seen(self):
        # A step is refused, and the cut stands come to the end.
        judge = Program((("pair", 0, 0, 0),) * 8)
        self.assertEqual(self.check_slip(judge, ONE), "open")
        word, made, paper = slip(judge, ONE)
        self.assertEqual((word, paper), ("open", None))
        self.assertEqual(made, slip_of(judge))

    def test_just_the_budget_and_one_more(self):
        for told, word in ((ONE, "ends"), (NIL, "doesn't")):
            for steps in (5, 100, 4000, 10000):
                judge = Program(lasting(steps - 1) + (("told", 0, told),))
                self.assertEqual(self.check_slip(judge, ONE, steps), word)
                self.assertEqual(self.check_slip(judge, ONE, steps - 1), "open")
                self.assertEqual(self.check_slip(judge, ONE, steps + 1), word)
        judge = Program(lasting(3999) + (("told", 0, NIL),))
        self.assertEqual(slip(judge, ONE)[0], "doesn't")
        judge = Program(lasting(4000) + (("told", 0, NIL),))
        self.assertEqual(slip(judge, ONE)[0], "open")
        self.assertEqual(slip(judge, ONE, 10000)[0], "doesn't")
        # No budget at all is enough where there are no deeds.
        self.assertEqual(self.check_slip(Program(()), NIL, 0), "ends")
        self.assertEqual(self.check_slip(NO_ALWAYS, NIL, 0), "open")

    def test_silent_by_the_same_budget(self):
        judge = Program(lasting(50) + (("told", 0, ONE), ("while", 0, ())))
        word, _, paper = slip(judge, NIL, 52)
        self.assertEqual((word, paper[0], paper[3:]), ("silent", "again", (51, 52)))
        word, _, paper = slip(judge, NIL, 51)
        self.assertEqual((word, paper[0]), ("silent", "closed"))

    def test_by_place_and_by_keyword(self):
        told = slip(YES_ALWAYS, ONE)
        for other in (slip(YES_ALWAYS, ONE, 4000), slip(judge=YES_ALWAYS, thing=ONE, budget=4000),
                      slip(budget=1, thing=ONE, judge=YES_ALWAYS), slip(YES_ALWAYS, ONE, budget=10000)):
            self.assertEqual(other, told)
        self.assertEqual(slip(YES_ALWAYS, ONE, budget=0)[0], "open")

    def test_the_greatest_that_are_never_refused(self):
        for deeds in ((("told", 0, NIL),) * 75, (("told", 0, left(296)),), (("told", 9, right(287)),)):
            judge = Program(deeds)
            self.assertEqual(len(code_of(judge)), 300)
            for thing in (left(200), right(200)):
                self.check_slip(judge, thing)


class TooGreatTest(unittest.TestCase):
    def check_refused(self, judge, thing):
        with self.assertRaises(TooGreat) as caught:
            slip(judge, thing)
        self.assertEqual(caught.exception.bound, 4000)

    def test_the_code_and_the_thing_together(self):
        for judge in (YES_ALWAYS, NO_ALWAYS, read_program("while a [ ]"), Program((("told", 0, left(1000)),))):
            room = 4000 - 1 - len(code_of(slip_of(judge)))
            for build in (left, right):
                word, made, paper = slip(judge, build(room))
                self.assertIn(word, ("ends", "doesn't", "silent"))
                self.assertEqual(made, slip_of(judge))
                if word == "doesn't":
                    self.assertEqual(paper[3:], (NIL, run(made, build(room)).steps))
                self.check_refused(judge, build(room + 1))
                self.check_refused(judge, build(4000))

    def test_the_code_alone(self):
        for deeds in ((("told", 0, left(4000)),), (("told", 0, left(2500)),), (("told", 0, NIL),) * 999,
                      (("told", 0, NIL),) * 1000, (("told", 0, NIL),) * 4000):
            judge = Program(deeds)
            self.check_refused(judge, NIL)
            self.assertEqual(judge.deeds, deeds)

    def test_the_refusal_comes_whatever_the_judge_says(self):
        judge = read_program("while a [ ]")
        with self.assertRaises(TooGreat):
            slip(judge, left(4000), 0)


class DrawnTest(Slipping):
    def test_drawn_ones(self):
        chance = source("slips")
        seen = {"ends": 0, "doesn't": 0, "silent": 0, "open": 0}
        for _ in range(250):
            judge = draw_coded(chance, chance.randint(0, 150), names=chance.randint(1, 10), told=20)
            thing = draw_thing(chance, chance.choice([0, 1, 10, 200]))
            seen[self.check_slip(judge, thing, chance.choice([20, 300, 1500]))] += 1
        for word in ("ends", "doesn't", "silent"):
            self.assertGreater(seen[word], 5, seen)

    def test_the_judge_s_steps_are_done_by_the_slip(self):
        judge = read_program("b = first a ; c = second a ; a = same b c ; d = pair a a")
        made, count = own_code(Program(judge.deeds + (BEHIND,)))
        found = [stand.names for stand in stands(made, ONE, count + 6)][count:]
        asked = [stand.names for stand in stands(judge, Thing(code_of(made), ONE), 6)]
        self.assertEqual(found[:5], asked)
        self.assertEqual(run(made, ONE), Run("ended", count + 5, NIL))

    def test_nothing_handed_in_is_changed(self):
        judge, thing = read_program("a = second a"), row([ONE, NIL])
        kept = judge.deeds
        first = slip(judge, thing)
        self.assertEqual((judge.deeds, thing), (kept, row([ONE, NIL])))
        self.assertEqual(slip(judge, thing), first)
        # What was told is handed in again: the slip as a judge, its code as a thing.
        word, made, _ = first
        self.assertEqual(slip(made, NIL)[0], "silent" if again(made, Thing(code_of(slip_of(made)), NIL), 4000)
                         else "doesn't")
        self.assertEqual(slip(judge, code_of(made))[0], "ends")


if __name__ == "__main__":
    unittest.main()
