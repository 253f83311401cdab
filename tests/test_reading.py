"""Reading the texts of things: point 6 of the document."""

import itertools
import unittest

from judgeslip.errors import NoText
from judgeslip.reading import read_thing
from judgeslip.things import Thing
from shapes import NIL, ONE, left, right, small_things, zigzag

STRANGE_SIGNS = [chr(at) for at in range(32, 127) if chr(at) not in "%.()"]


class ReadingTest(unittest.TestCase):
    def check_refused(self, text, place):
        with self.assertRaises(NoText) as caught:
            read_thing(text)
        self.assertEqual(caught.exception.place, place, text[:60])

    def test_texts(self):
        self.assertEqual(read_thing("."), Thing())
        self.assertEqual(read_thing("(..)"), ONE)
        self.assertEqual(read_thing(text="(.(..))"), Thing(NIL, ONE))
        self.assertEqual(read_thing("((..).)"), Thing(ONE, NIL))

    def test_each_small_text_is_read_back(self):
        for thing in small_things(6):
            told = read_thing(str(thing))
            self.assertIsInstance(told, Thing)
            self.assertEqual(told, thing)
            self.assertEqual(str(told), str(thing))

    def test_the_greatest_are_read_back(self):
        for thing in (left(4000), right(4000), zigzag(4000)):
            self.assertEqual(read_thing(str(thing)), thing)

    def test_the_empty_text(self):
        self.check_refused("", 0)

    def test_each_text_that_ends_too_early(self):
        for text in ("(..)", "((..)(.(..)))", str(left(30)), str(right(30))):
            for end in range(len(text)):
                self.check_refused(text[:end], end)

    def test_a_strange_sign_at_each_place(self):
        text = "((..)(.(..)))"
        for place in range(len(text) + 1):
            for sign in STRANGE_SIGNS:
                self.check_refused(text[:place] + sign + text[place + 1:], place)
                self.check_refused(text[:place] + sign + text[place:], place)

    def test_something_behind_the_end(self):
        for text in (".", "(..)", "((..)(.(..)))"):
            for more in (".", "(", ")", " ", "(..)", ".)", "x"):
                self.check_refused(text + more, len(text))

    def test_blanks_are_strange(self):
        self.check_refused(" .", 0)
        self.check_refused(". ", 1)
        self.check_refused("( ..)", 1)
        self.check_refused("(.\n.)", 2)

    def test_brackets_at_wrong_places(self):
        self.check_refused(")", 0)
        self.check_refused("()", 1)
        self.check_refused("(.)", 2)
        self.check_refused("(...)", 3)
        self.check_refused("(..(", 3)
        self.check_refused("((..)..)", 6)
        self.check_refused("((..))", 5)

    def test_every_short_text(self):
        # Six pairs, since six signs may begin so many.
        texts = {str(thing) for thing in small_things(6)}
        begun = {text[:end] for text in texts for end in range(len(text) + 1)}
        for length in range(7):
            for signs in itertools.product(".()x", repeat=length):
                text = "".join(signs)
                if text in texts:
                    self.assertEqual(str(read_thing(text)), text)
                    continue
                wrong = [at for at in range(length) if text[:at + 1] not in begun]
                self.check_refused(text, wrong[0] if wrong else length)

    def test_a_pair_too_many(self):
        self.check_refused("(" * 4001 + "." + ".)" * 4001, 4000)
        self.check_refused("(." * 4001 + "." + ")" * 4001, 8000)
        self.check_refused("(" + "(." * 2000 + "." + ")" * 2000 + "(." * 2000 + "." + ")" * 2000 + ")",
                           1 + 6001 + 2 * 1999)
        self.check_refused("(" * 4001, 4000)
        self.check_refused("(" * 20000, 4000)

    def test_what_breaks_ahead_of_a_pair_too_many(self):
        self.check_refused("(" * 3000 + "x" + "(" * 3000, 3000)
        self.check_refused("(" * 4000 + "x", 4000)
        self.check_refused("(" * 4000, 4000)
        self.check_refused("(" * 4000 + "." + ".)" * 3999, 4001 + 2 * 3999)
        self.check_refused("(" * 4000 + "." + ".)" * 4000 + "(", 4001 + 2 * 4000)
        self.check_refused("(" * 4000 + ".(", 4001)

    def test_a_refused_text_is_refused_again(self):
        for _ in range(3):
            self.check_refused("(.", 2)
            self.assertEqual(read_thing("(..)"), ONE)


if __name__ == "__main__":
    unittest.main()
