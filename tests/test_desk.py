"""The desk: point 26 of the document."""

import unittest

from judgeslip.codes import code_of
from judgeslip.desk import Desk
from judgeslip.endless import endless
from judgeslip.errors import NoName, NoProgram, NoSaying, NoText, TooGreat
from judgeslip.given import half_given
from judgeslip.owns import own_code
from judgeslip.programs import Program
from judgeslip.runner import runner
from judgeslip.runs import run
from judgeslip.slips import slip
from judgeslip.small import small
from judgeslip.things import Thing, number
from judgeslip.words import read_program
from cutting import needs_depth
from drawing import draw_program, draw_thing, lasting, source
from shapes import NIL, ONE, full, left, right

LOOP = "while a [ ]"
GROWING = "while a [ b = pair b a ]"
# Right rows, for a desk on which p is a program, t a thing and c the code of p.
RIGHT = ("program x a = .", "thing x (..)", "code x p", "read x c", "pair x t c", "given x p t", "own x p", "small x p",
         "runner x", "run p t 5", "endless p t 5", "slip x p t 5", "size p", "show t", "drop t", "names")
NAMES = ("a", "z", "abcdefgh", "program", "thing", "names", "run", "qqqqqqqq")
NO_NAMES = ("A", "abcdefghi", "a1", "1", "0", "a_", "-", ".", "aB", "a-b", "(..)", "Abc", "a;", "~", "a" * 17)
NO_COUNTS = ("", "00", "01", "-1", "+1", "1.", "1,0", "20001", "99999", "100000", "x", "1x", "0x1", "1_0", "-0", "020",
             "9" * 12, "1" * 5000)


class Desks(unittest.TestCase):
    def setUp(self):
        self.desk = Desk()

    def say(self, row, answer="ok", desk=None):
        told = (desk or self.desk).say(row)
        self.assertIs(type(told), str)
        self.assertEqual(told, answer, row)

    def shown(self, desk=None):
        """All that a desk keeps, by its texts."""
        desk = desk or self.desk
        names = desk.say("names")
        return {} if names == "-" else {name: (desk.say(f"show {name}"), desk.say(f"size {name}"))
                                        for name in names.split(" ")}

    def refused(self, row, kind, **told):
        kept = self.shown()
        with self.assertRaises(kind) as caught:
            self.desk.say(row)
        self.assertIs(type(caught.exception), kind)
        for name, worth in told.items():
            self.assertEqual(getattr(caught.exception, name), worth, row)
        if kind is NoSaying:
            self.assertIs(caught.exception.row, row)
        self.assertEqual(self.shown(), kept)

    def fill(self, desk=None):
        desk = desk or self.desk
        for row in ("program p while a [ a = second a ]", "thing t (.(..))", "code c p"):
            desk.say(row)


class AnswerTest(Desks):
    def test_each_row(self):
        for row in RIGHT:
            answers = []
            for keyword in (False, True):
                desk = Desk()
                self.fill(desk)
                answers.append(desk.say(row=row) if keyword else desk.say(row))
            self.assertIs(type(answers[0]), str)
            self.assertEqual(answers[0], answers[1])

    def test_program_and_thing(self):
        self.say("program p b = first a ; a = second b")
        self.say("show p", "b = first a ; a = second b")
        self.say("size p", "2")
        self.say("thing t (.(..))")
        self.say("show t", "(.(..))")
        self.say("size t", "2")
        self.say("thing nil .")
        self.say("show nil", ".")
        self.say("size nil", "0")
        # The blank is there, and the text behind it is empty.
        self.say("program e ")
        self.say("show e", "")
        self.say("size e", "0")

    def test_code_and_read(self):
        self.say("program p while a [ b = (..) ]")
        self.say("code c p")
        program = read_program("while a [ b = (..) ]")
        self.say("show c", str(code_of(program)))
        self.say("size c", str(len(code_of(program))))
        self.say("read q c")
        self.say("show q", "while a [ b = (..) ]")
        self.say("thing n .")
        self.say("read q n")
        self.say("show q", "")

    def test_pair(self):
        self.say("thing a (..)")
        self.say("thing b .")
        self.say("pair c a b")
        self.say("show c", "((..).)")
        self.say("pair c b a")
        self.say("show c", "(.(..))")
        self.say("pair a a a")
        self.say("show a", "((..)(..))")
        self.say("pair b a b")
        self.say("show b", "(((..)(..)).)")

    def test_given_own_small_and_runner(self):
        program = read_program("while a [ a = second a ; b = pair b a ]")
        self.say(f"program p {program}")
        self.say("thing t (.(..))")
        self.say("given g p t")
        self.say("show g", str(half_given(program, number(2))))
        self.say("own o p")
        self.say("show o", str(own_code(program)[0]))
        self.say("small s p")
        self.say("show s", str(small(program)))
        self.say("runner r")
        self.say("show r", str(runner()))
        self.say("size r", str(len(runner())))
        self.say("code c p")
        self.say("pair ct c t")
        self.say("run r ct 5000", str(run(runner(), Thing(code_of(program), number(2)), 5000)))

    def test_run(self):
        self.say("program p while a [ a = second a ]")
        self.say("thing t (.(..))")
        self.say("run p t 5", "ended 5 .")
        self.say("run p t 4", "open 4")
        self.say("run p t 0", "open 0")
        self.say("run p t 20000", "ended 5 .")
        self.say("program g a = pair a a")
        for _ in range(10):
            self.say("pair t t t")
        self.say("run g t 9", "great 0")
        self.say(f"program l {Program(lasting(20000))}")
        self.say("run l t 20000", f"ended 20000 {self.desk.say('show t')}")
        self.say("run l t 19999", "open 19999")

    def test_endless(self):
        self.say(f"program p {LOOP}")
        self.say(f"program g {GROWING}")
        self.say("thing t (..)")
        self.say("thing n .")
        self.say("endless p t 10", "again 0 1")
        self.say("endless p t 1", "again 0 1")
        self.say("endless p t 0", "closed 1 1")
        self.say("endless p n 10", "-")
        self.say("endless g t 500", "closed 1 4")
        self.say("endless g t 20000", "closed 1 4")
        for depth in (1, 2, 3, 4):
            program = needs_depth(depth)
            self.say(f"program d {program}")
            paper = endless(program, ONE, 50)
            self.say("endless d t 50", f"closed {depth} {len(paper[4])}" if depth < 4 else "-")

    def test_slip(self):
        self.say("thing t (..)")
        self.say("thing n .")
        for text, thing, word in (("a = (..)", "t", "ends"), ("a = .", "t", "doesn't"), (LOOP, "t", "silent"),
                                  ("a = second a", "t", "ends"), ("a = second a", "n", "doesn't")):
            judge = read_program(text)
            self.say(f"program j {text}")
            self.say(f"slip s j {thing} 10000", word)
            self.say("show s", str(slip(judge, ONE)[1]))
        self.say("program j a = .")
        # The slip stands by each word.
        self.say("slip u j t 0", "open")
        self.say("show u", str(slip(read_program("a = ."), ONE)[1]))
        self.say("slip j j t 1", "doesn't")
        self.say("show j", str(slip(read_program("a = ."), ONE)[1]))

    def test_drop_and_names(self):
        self.say("names", "-")
        for name in ("b", "a", "ab", "zz", "c"):
            self.say(f"thing {name} .")
        self.say("names", "a ab b c zz")
        self.say("drop ab")
        self.say("names", "a b c zz")
        self.refused("drop ab", NoName, name="ab")
        self.say("program ab ")
        self.say("names", "a ab b c zz")
        for name in ("a", "ab", "b", "c", "zz"):
            self.say(f"drop {name}")
        self.say("names", "-")

    def test_new_takes_the_place_of_what_stands(self):
        for row in [row for row in RIGHT if " x" in row]:
            shown = []
            for first in ("names", "program x a = (..)", "thing x (.(.(..)))"):
                desk = Desk()
                self.fill(desk)
                desk.say(first)
                desk.say(row)
                self.assertEqual(desk.say("names"), "c p t x")
                shown.append(self.shown(desk))
            self.assertEqual(shown, shown[:1] * 3)

    def test_new_is_a_word_of_the_row_itself(self):
        self.fill()
        for row, text in (("code p p", str(code_of(read_program("while a [ a = second a ]")))),
                          ("read p p", "while a [ a = second a ]"),
                          ("given t p t", str(half_given(read_program("while a [ a = second a ]"), number(2)))),
                          ("small p p", str(small(read_program("while a [ a = second a ]"))))):
            self.say(row)
            self.say(f"show {row.split(' ')[1]}", text)

    def test_names_of_each_kind(self):
        for name in NAMES:
            self.say(f"thing {name} (..)")
            self.say(f"show {name}", "(..)")
            self.say(f"program {name} a = .")
            self.say(f"show {name}", "a = .")
        self.say("names", " ".join(sorted(NAMES)))

    def test_any_size(self):
        for thing in (left(4000), right(4000), full(11)):
            self.say(f"thing t {thing}")
            self.say("show t", str(thing))
            self.say("size t", str(len(thing)))
        many = Program((("told", 0, NIL),) * 4000)
        self.say(f"program p {many}")
        self.say("size p", "4000")
        self.say("run p t 5000", "ended 4000 .")
        self.say(f"program p {Program((('told', 0, NIL),) * 1000)}")
        self.say("code c p")
        self.say("size c", "4000")
        self.say("given g p t")
        self.say("size g", "1003")

    def test_drawn_texts(self):
        chance = source("desk")
        for _ in range(100):
            program = draw_program(chance, chance.randint(0, 20))
            thing = draw_thing(chance, chance.randint(0, 30))
            self.say(f"program p {program}")
            self.say("show p", str(program))
            self.say(f"thing t {thing}")
            self.say("show t", str(thing))
            self.say("run p t 300", str(run(program, thing, 300)))
            paper = endless(program, thing, 300)
            answer = "-" if paper is None else f"again {paper[3]} {paper[4]}"
            if paper is not None and paper[0] == "closed":
                answer = f"closed {paper[3]} {len(paper[4])}"
            self.say("endless p t 300", answer)


class NoSayingTest(Desks):
    def test_what_is_no_text(self):
        self.fill()
        for row in (None, 0, 1, True, False, [], ["names"], ("names",), (), NIL, ONE, Program(()), [[["names"]]],
                    ["x"] * 19000):
            self.refused(row, NoSaying)

    def test_what_is_no_row(self):
        self.fill()
        for row in ("", " ", "  ", "Names", "names ", " names", "name", "namess", "x", "-", "ok", "say", "NAMES",
                    "names names", "names p", "run", "run ", "program", "program ", "thing", "code", "slip", "0",
                    "5 p t run", "p", "t", "program p", "thing t", "w", "x" * 20000, "names" + " " * 19000):
            self.refused(row, NoSaying)

    def test_words_left_out_told_twice_and_put_otherwise(self):
        self.fill()
        for row in RIGHT:
            words = row.split(" ")
            if words[0] in ("program", "thing"):
                continue
            for at in range(len(words)):
                short = " ".join(words[:at] + words[at + 1:])
                self.refused(short, NoSaying)
                self.refused(" ".join(words[:at] + [words[at]] + words[at:]), NoSaying)
                self.refused(" ".join(words[:at] + [""] + words[at:]), NoSaying)
            self.refused(row + " ", NoSaying)
            self.refused(" " + row, NoSaying)
            self.refused(row.upper(), NoSaying)
            self.refused(row.capitalize(), NoSaying)
            if len(words) > 1:
                self.refused(" ".join(words[1:] + words[:1]), NoSaying)

    def test_two_blanks_in_texts(self):
        for row in ("program  a a = .", "thing  a .", " program a ", "  thing a .", "program  ", "thing  "):
            self.refused(row, NoSaying)
        self.refused("program a  ", NoText, place=0)
        self.refused("thing a  ", NoText, place=0)

    def test_what_is_no_name(self):
        self.fill()
        for row in RIGHT:
            words = row.split(" ", 2) if row.startswith(("program", "thing")) else row.split(" ")
            for at in range(1, len(words)):
                if words[at] not in ("x", "p", "t", "c"):
                    continue
                for name in NO_NAMES:
                    self.refused(" ".join(words[:at] + [name] + words[at + 1:]), NoSaying)

    def test_counts(self):
        self.fill()
        for row in ("run p t", "endless p t", "slip x p t"):
            for count in NO_COUNTS:
                self.refused(f"{row} {count}", NoSaying)
            for count in (0, 1, 9, 10, 100, 9999, 10000):
                self.desk.say(f"{row} {count}")
        for count in (10001, 10009, 19999, 20000):
            self.refused(f"slip x p t {count}", NoSaying)
            self.desk.say(f"run p t {count}")
            self.desk.say(f"endless p t {count}")

    def test_ahead_of_all_others(self):
        # Neither name stands, and yet it is the row that is wrong.
        for row in ("run p t 20001", "run p t", "code x P", "slip x p t 10001", "pair x p 1", "program X while",
                    "thing X )", "run p t 01", "drop", "show p t"):
            self.refused(row, NoSaying)

    def test_other_signs(self):
        self.fill()
        for row in ("names\n", "names\t", "show\tp", "show p\n", "show\u00e4", "show \u00e4", "run p t \u0661",
                    "run p t 5\n"):
            self.refused(row, NoSaying)


class NoTextTest(Desks):
    def test_programs(self):
        for text, place in (("a", 1), ("a =", 2), ("a = ", 2), ("a = . ;", 4), ("a = . ", 3), (" a = .", 0),
                            ("a  = .", 1), ("k = .", 0), ("while a [ ", 3), ("while a [ ] ]", 4),
                            ("A = .", 0), (".", 0)):
            self.refused(f"program x {text}", NoText, place=place)
        self.refused("program x " + str(Program((("told", 0, NIL),) * 4000)) + " ; a = .", NoText)

    def test_things(self):
        for text, place in (("", 0), ("(", 1), ("(.", 2), (". ", 1), (" .", 0), ("(. .)", 2), ("..", 1), ("x", 0),
                            ("a = .", 0)):
            self.refused(f"thing x {text}", NoText, place=place)
        self.refused(f"thing x ({left(4000)}.)", NoText, place=4000)

    def test_the_place_of_what_stands_is_kept(self):
        self.say("thing x (..)")
        self.refused("thing x (..", NoText, place=3)
        self.refused("program x a = ,", NoText, place=2)
        self.say("show x", "(..)")


class NoNameTest(Desks):
    def test_nothing_stands(self):
        for row, name in (("code x p", "p"), ("read x c", "c"), ("pair x t c", "t"), ("given x p t", "p"),
                          ("own x p", "p"), ("small x p", "p"), ("run p t 5", "p"), ("endless p t 5", "p"),
                          ("slip x p t 5", "p"),
                          ("size p", "p"), ("show t", "t"), ("drop t", "t"), ("pair x y y", "y"), ("code x x", "x"),
                          ("drop names", "names")):
            self.refused(row, NoName, name=name)

    def test_of_the_other_kind(self):
        self.fill()
        for row, name in (("code x t", "t"), ("read x p", "p"), ("pair x p t", "p"), ("pair x t p", "p"),
                          ("pair x p q", "p"), ("pair x q p", "q"), ("given x t p", "t"), ("given x p p", "p"),
                          ("given x t t", "t"), ("given x p q", "q"), ("own x t", "t"), ("small x t", "t"),
                          ("run t p 5", "t"), ("run p p 5", "p"), ("run t t 5", "t"), ("run p q 5", "q"),
                          ("run q t 5", "q"),
                          ("endless t p 5", "t"), ("endless p p 5", "p"), ("endless q r 5", "q"), ("slip x t p 5", "t"),
                          ("slip x p p 5", "p"), ("slip x p q 5", "q"), ("slip t t t 5", "t"), ("size q", "q"),
                          ("show q", "q"), ("drop q", "q")):
            self.refused(row, NoName, name=name)

    def test_ahead_of_what_the_functions_refuse(self):
        self.say(f"thing great {left(4000)}")
        self.refused("pair x great q", NoName, name="q")
        self.refused("pair x q great", NoName, name="q")
        self.say(f"program many {Program((('told', 0, NIL),) * 2000)}")
        self.refused("slip x many q 5", NoName, name="q")


class RefusedTest(Desks):
    def test_too_great(self):
        self.say(f"thing great {left(4000)}")
        self.say("thing n .")
        self.say(f"program many {Program((('told', 0, NIL),) * 1001)}")
        self.say(f"program most {Program((('told', 0, NIL),) * 1000)}")
        self.say("program p a = .")
        self.say("thing x (..)")
        for row in ("pair x great n", "pair x n great", "pair great great great", "code x many", "own x many",
                    "own x most", "slip x most n 5", "slip x p great 5", "slip great p great 0"):
            self.refused(row, TooGreat, bound=4000)
        self.say("code y most")
        self.refused("small x many", TooGreat, bound=30)
        self.refused("small many many", TooGreat, bound=30)
        self.say("show x", "(..)")

    def test_no_program(self):
        self.say("thing t ((..).)")
        self.refused("read x t", NoProgram, place=0)
        self.refused("read t t", NoProgram, place=0)
        self.say("program p a = . ; b = .")
        self.say("code c p")
        self.say("thing bad ((.(.(..)))(((..).).))")
        self.refused("read x bad", NoProgram, place=1)
        self.say("read x c")
        self.say(f"program many {Program((('told', 0, NIL),) * 4000)}")
        self.refused("given x many t", NoProgram, place=4000)

    def test_what_is_refused_changes_nothing(self):
        self.fill()
        kept = self.shown()
        for row in ("", None, "program p a", "thing t (", "code p t", "read c t", "pair p t q", "run p t 20001",
                    "slip p p p 5", "drop q", "small p q", "given t p q"):
            with self.assertRaises((NoSaying, NoText, NoName, NoProgram)):
                self.desk.say(row)
            self.assertEqual(self.shown(), kept)


class TwoDesksTest(Desks):
    def test_by_turns(self):
        one, other = Desk(), Desk()
        self.say("thing t (..)", desk=one)
        self.say("program t a = .", desk=other)
        self.say("show t", "(..)", desk=one)
        self.say("show t", "a = .", desk=other)
        self.say("pair u t t", desk=one)
        self.say("names", "t u", desk=one)
        self.say("names", "t", desk=other)
        self.say("drop t", desk=other)
        self.say("names", "-", desk=other)
        self.say("show t", "(..)", desk=one)
        self.assertEqual(Desk().say("names"), "-")


if __name__ == "__main__":
    unittest.main()
