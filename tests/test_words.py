"""The texts of programs: point 11 of the document."""

import unittest

from judgeslip.errors import NoText
from judgeslip.programs import Program
from judgeslip.things import Thing
from judgeslip.words import read_program
from drawing import draw_program, source
from shapes import NIL, ONE, left, right

TOLD = ("told", 0, NIL)
TEXTS = [
    ((), ""),
    ((("told", 1, ONE),), "b = (..)"),
    ((("told", 0, NIL),), "a = ."),
    ((("first", 1, 2),), "b = first c"),
    ((("second", 1, 2),), "b = second c"),
    ((("pair", 1, 2, 3),), "b = pair c d"),
    ((("same", 1, 2, 3),), "b = same c d"),
    ((("while", 1, ()),), "while b [ ]"),
    ((("if", 1, (), ()),), "if b [ ] [ ]"),
    ((("while", 1, (TOLD,)),), "while b [ a = . ]"),
    ((("while", 1, (TOLD, TOLD)),), "while b [ a = . ; a = . ]"),
    ((("if", 9, (TOLD,), ()),), "if j [ a = . ] [ ]"),
    ((("if", 9, (), (TOLD,)),), "if j [ ] [ a = . ]"),
    ((("if", 9, (TOLD, ("pair", 9, 8, 7)), (("same", 6, 5, 4),)), ("first", 3, 3)),
     "if j [ a = . ; j = pair i h ] [ g = same f e ] ; d = first d"),
    ((("while", 0, (("while", 1, ()), ("if", 2, (("while", 3, (TOLD,)),), ()))), TOLD),
     "while a [ while b [ ] ; if c [ while d [ a = . ] ] [ ] ] ; a = ."),
    ((("told", 2, Thing(ONE, Thing(NIL, ONE))), ("told", 3, NIL)), "c = ((..)(.(..))) ; d = ."),
]
LONG = ("b = (.(..)) ; while b [ c = first a ; if c [ d = pair c d ; while d [ ] ] [ ] ; a = second a ] ; "
        "if d [ ] [ a = same b j ] ; j = second i")


def deep(floors, inner=""):
    """The text of so many whiles within one another."""
    return " ".join(["while a ["] * floors + ([inner] if inner else []) + ["]"] * floors)


def short_rows(most):
    """The texts, as tuples of words, of all rows of at most so many words, of the name a and nil alone."""
    known = {}

    def rows(words):
        if words < 0:
            return []
        if words not in known:
            found = [()]
            for deed in deeds(words):
                found.append(deed)
                found.extend(deed + (";",) + row for row in rows(words - len(deed) - 1) if row)
            known[words] = found
        return known[words]

    def deeds(words):
        found = [("a", "=", "."), ("a", "=", "first", "a"), ("a", "=", "pair", "a", "a")]
        found.extend(("while", "a", "[") + row + ("]",) for row in rows(words - 4))
        for row in rows(words - 6):
            found.extend(("if", "a", "[") + row + ("]", "[") + other + ("]",)
                         for other in rows(words - 6 - len(row)))
        return [deed for deed in found if len(deed) <= words]

    return set(rows(most))


class WritingTest(unittest.TestCase):
    def test_texts(self):
        for deeds, text in TEXTS:
            program = Program(deeds)
            self.assertEqual(str(program), text)
            self.assertEqual(repr(program), "Program " + text)
            self.assertEqual(f"{program}", text)

    def test_each_name(self):
        for name, letter in enumerate("abcdefghij"):
            self.assertEqual(str(Program((("pair", name, name, name),))), f"{letter} = pair {letter} {letter}")
            self.assertEqual(str(Program((("while", name, ()),))), f"while {letter} [ ]")

    def test_one_row_that_stands_twice(self):
        row = (TOLD, ("first", 1, 1))
        self.assertEqual(str(Program((("if", 0, row, row),))),
                         "if a [ a = . ; b = first b ] [ a = . ; b = first b ]")

    def test_great_ones(self):
        self.assertEqual(str(Program((TOLD,) * 4000)), " ; ".join(["a = ."] * 4000))
        self.assertEqual(str(Program((("told", 0, left(4000)),))), "a = " + "(" * 4000 + "." + ".)" * 4000)


class ReadingTest(unittest.TestCase):
    def test_texts(self):
        for deeds, text in TEXTS:
            program = read_program(text)
            self.assertIsInstance(program, Program)
            self.assertEqual(program.deeds, deeds)
            self.assertEqual(read_program(text=text), program)

    def test_drawn_ones_are_read_back(self):
        chance = source("texts")
        for many in list(range(60)) + [200, 1000, 4000]:
            program = draw_program(chance, many, told=9)
            told = read_program(str(program))
            self.assertEqual(told, program)
            self.assertEqual(str(told), str(program))

    def test_great_ones_are_read_back(self):
        for deeds in ((TOLD,) * 4000, (("while", 0, ()),) * 4000, (("if", 0, (TOLD,) * 2000, (TOLD,) * 1999),),
                      (("told", 0, left(4000)), ("told", 1, right(4000)))):
            self.assertEqual(read_program(str(Program(deeds))).deeds, deeds)

    def test_eight_floors_are_read_back(self):
        for inner in ("", "a = .", "b = pair c d ; a = ."):
            self.assertEqual(str(read_program(deep(8, inner))), deep(8, inner))


class RefusalTest(unittest.TestCase):
    def check_refused(self, text, place):
        with self.assertRaises(NoText) as caught:
            read_program(text)
        self.assertEqual(caught.exception.place, place, text[:200])
        self.assertIs(type(caught.exception.place), int)

    def test_every_short_text(self):
        # With one name and one thing: a text of seven words ("if a [ if a [ if") goes on for eleven more at most.
        texts = short_rows(18)
        begun = {words[:end] for words in texts for end in range(len(words) + 1)}
        vocabulary = ("a", "=", ".", "first", "pair", "while", "if", "[", "]", ";", "", "k", "told")
        prefixes = [()]
        for length in range(7):
            longer = []
            for words in [prefix + (word,) for prefix in prefixes for word in vocabulary]:
                text = " ".join(words)
                if words in texts:
                    self.assertEqual(str(read_program(text)), text)
                elif words in begun:
                    self.check_refused(text, length + 1)
                elif text:
                    self.check_refused(text, length)
                if words in begun:
                    longer.append(words)
                else:
                    self.check_refused(text + " a", length)
            prefixes = longer
        self.assertGreater(len(prefixes), 20)

    def test_a_strange_word_at_each_place(self):
        words = LONG.split(" ")
        self.assertEqual(str(read_program(LONG)), LONG)
        for place in range(len(words) + 1):
            for strange in ("k", "A", "aa", "x", "==", ":=", "[[", "]]", "[]", ";;", "told", "firs", "firstly",
                            "whil", "whiles", "else", "0", "(", ")", "(.", "..", "(..", "(..).", "()", "a;",
                            "\t", "a\n", "-", "first,", "=.", "~"):
                self.check_refused(" ".join(words[:place] + [strange] + words[place + 1:]), place)
                self.check_refused(" ".join(words[:place] + [strange] + words[place:]), place)

    def test_an_empty_word_at_each_place(self):
        words = LONG.split(" ")
        for place in range(len(words) + 1):
            self.check_refused(" ".join(words[:place] + [""] + words[place:]), place)
        self.check_refused(" ", 0)
        self.check_refused("  ", 0)
        self.check_refused(" a = .", 0)
        self.check_refused("a = . ", 3)
        self.check_refused("a  = .", 1)
        self.check_refused("while a [  ]", 3)

    def test_only_the_beginning_of_a_right_word(self):
        words = LONG.split(" ")
        for place, word in enumerate(words):
            for end in range(len(word)):
                text = " ".join(words[:place] + [word[:end]])
                # A beginning may be right itself: the i of if is a name, and an empty word at the end is none.
                if text and word[:end] != "i":
                    self.check_refused(text, place)

    def test_one_sign_too_many(self):
        words = LONG.split(" ")
        for place, word in enumerate(words):
            for sign in "a=.;[]()x~":
                self.check_refused(" ".join(words[:place] + [word + sign] + words[place + 1:]), place)

    def test_each_text_that_ends_too_early(self):
        words = LONG.split(" ")
        # Where a deed of the outermost row is over, the text may end.
        deeds = read_program(LONG).deeds
        whole = {len(str(Program(deeds[:many])).split()) for many in range(len(deeds) + 1)}
        self.assertEqual(len(whole), 5)
        for end in range(len(words) + 1):
            text = " ".join(words[:end])
            if end in whole:
                self.assertEqual(str(read_program(text)), text)
            else:
                self.check_refused(text, end)

    def test_told_things_that_break(self):
        for word in ("(", ")", "(.", "(..", "()", "(.)", "(...)", "..", "(..)(..)", "(..).", "((..)", "(. .)", ".x"):
            self.check_refused(f"a = . ; b = {word} ; c = .", 6)
            self.check_refused(f"while a [ b = {word} ]", 5)

    def test_a_told_thing_too_great(self):
        text = str(left(4000))
        self.assertEqual(read_program("b = " + text), Program((("told", 1, left(4000)),)))
        for great in ("(" + text + ".)", "(." + text + ")", "(" * 4001):
            self.check_refused("b = " + great, 2)
            self.check_refused("a = . ; b = " + great + " ; k", 6)

    def test_a_ninth_floor(self):
        self.check_refused(deep(9), 24)
        self.check_refused(deep(12), 24)
        self.check_refused(deep(8, "if a [ ] [ ]"), 24)
        self.check_refused(deep(8, "a = . ; while b [ ]"), 28)
        self.check_refused(deep(7, "if a [ ] [ while b [ ] ]"), 26)
        self.check_refused(deep(8, "while"), 24)
        self.check_refused("a = . ; " + deep(9), 28)
        self.check_refused(" ".join(["if a [ ] ["] * 8 + ["while a [ ]"] + ["]"] * 8), 40)

    def test_more_than_4000_deeds(self):
        # With 4,000 deeds behind it, no program's text goes on with a ";".
        text = " ; ".join(["a = ."] * 4000)
        words = 4 * 4000 - 1
        self.assertEqual(len(read_program(text)), 4000)
        self.check_refused(text + " ; a = .", words)
        self.check_refused(text + " ;", words)
        self.check_refused(text + " ]", words)
        self.check_refused("while b [ " + text + " ]", 3 + words - 4)
        self.check_refused("while b [ " + text, 3 + words - 4)
        fewer = " ; ".join(["a = ."] * 3999)
        self.assertEqual(len(read_program("while b [ " + fewer + " ]")), 4000)
        self.check_refused("while b [ " + fewer + " ] ; a = .", 3 + words - 4 + 1)

    def test_more_than_4000_deeds_by_a_row_of_the_last(self):
        fewer = " ; ".join(["a = ."] * 3999)
        words = 4 * 3999 - 1
        self.assertEqual(len(read_program(fewer + " ; while b [ ]")), 4000)
        self.assertEqual(len(read_program(fewer + " ; if b [ ] [ ]")), 4000)
        self.check_refused(fewer + " ; while b [ a = . ]", words + 4)
        self.check_refused(fewer + " ; if b [ a = . ] [ ]", words + 4)
        self.check_refused(fewer + " ; if b [ ] [ while c [ ] ]", words + 6)
        self.check_refused(fewer + " ; if b [ ]", words + 5)

    def test_a_wrong_word_ahead_of_them(self):
        text = " ; ".join(["a = ."] * 4000)
        self.check_refused("a = x ; " + text, 2)
        self.check_refused(text[:-1] + "x ; a = .", 4 * 4000 - 2)

    def test_a_refused_text_is_refused_again(self):
        for _ in range(3):
            self.check_refused("a = first", 3)
            self.assertEqual(read_program("a = first a"), Program((("first", 0, 0),)))


if __name__ == "__main__":
    unittest.main()
