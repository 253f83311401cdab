"""Things: points 2 and 4 of the document."""

import unittest

from judgeslip.errors import NoText, TooGreat
from judgeslip.things import Thing
from shapes import NIL, ONE, all_things, full, left, right, small_things, text_by_calls, zigzag


class MakingTest(unittest.TestCase):
    def test_nil(self):
        nil = Thing()
        self.assertEqual(nil.head(), nil)
        self.assertEqual(nil.tail(), nil)
        self.assertEqual(len(nil), 0)
        self.assertFalse(nil)

    def test_nil_with_its_defaults_told(self):
        self.assertEqual(Thing(None, None), Thing())
        self.assertEqual(Thing(first=None, second=None), Thing())

    def test_pairs_by_place_and_by_keyword(self):
        two = Thing(NIL, ONE)
        self.assertEqual(Thing(first=NIL, second=ONE), two)
        self.assertEqual(Thing(second=ONE, first=NIL), two)
        self.assertEqual(Thing(NIL, second=ONE), two)
        self.assertNotEqual(Thing(first=ONE, second=NIL), two)

    def test_head_and_tail_of_pairs(self):
        for first in small_things(3):
            for second in small_things(3):
                pair = Thing(first, second)
                self.assertEqual(pair.head(), first)
                self.assertEqual(pair.tail(), second)
                self.assertIsInstance(pair.head(), Thing)
                self.assertIsInstance(pair.tail(), Thing)

    def test_the_methods_stand_in_the_class_itself(self):
        for name in ("head", "tail", "__len__", "__eq__", "__str__", "__repr__"):
            self.assertIn(name, vars(Thing))

    def test_a_part_stays_when_pairs_are_made_of_it(self):
        part = Thing(NIL, ONE)
        pair = Thing(part, part)
        Thing(pair, part)
        pair.head()
        self.assertEqual(part, Thing(Thing(), Thing(Thing(), Thing())))
        self.assertEqual(len(part), 2)
        self.assertEqual(str(pair), "((.(..))(.(..)))")


class LengthTest(unittest.TestCase):
    def test_small_things(self):
        for size in range(6):
            for thing in all_things(size):
                self.assertEqual(len(thing), size)
                self.assertIs(type(len(thing)), int)

    def test_a_thing_that_stands_several_times_counts_each_time(self):
        for depth in range(12):
            self.assertEqual(len(full(depth)), 2 ** depth - 1)
        part = Thing(ONE, ONE)
        self.assertEqual(len(Thing(part, Thing(part, part))), 11)

    def test_truth(self):
        for thing in small_things(4):
            self.assertIs(bool(thing), len(thing) > 0)
        self.assertTrue(left(4000))
        self.assertTrue(right(4000))


class SameTest(unittest.TestCase):
    def test_built_alike_and_unlike(self):
        ones, others = small_things(5), small_things(5)
        for at, one in enumerate(ones):
            for place, other in enumerate(others):
                self.assertIs(one == other, at == place)
                self.assertIs(one != other, at != place)

    def test_in_lists_and_tuples(self):
        self.assertEqual([Thing(), Thing(NIL, ONE)], [Thing(), Thing(NIL, Thing(NIL, NIL))])
        self.assertNotEqual([Thing(), Thing(NIL, ONE)], [Thing(), Thing(ONE, NIL)])
        self.assertEqual((1, Thing(ONE, ONE)), (1, Thing(ONE, ONE)))
        self.assertIn(Thing(NIL, NIL), [NIL, Thing(ONE, NIL), Thing(NIL, NIL)])
        self.assertNotIn(Thing(NIL, ONE), [NIL, Thing(ONE, NIL), ONE])
        self.assertEqual([NIL, ONE, Thing(ONE, ONE)].index(Thing(NIL, NIL)), 1)

    def test_nothing_of_another_kind_is_the_same(self):
        class Alike:
            first = None
            second = None
            size = 0

        strangers = [None, 0, 1, 2, -1, True, False, "", ".", "(..)", "Thing .", b"", b".",
                     [], [[], []], (), ((), ()), (None, None), {}, set(), object(), Thing, Alike(),
                     NoText(0), [Thing()], (Thing(),), (Thing(), Thing())]
        for thing in (Thing(), ONE, Thing(ONE, ONE), left(4000)):
            for stranger in strangers:
                self.assertIs(thing == stranger, False)
                self.assertIs(stranger == thing, False)
                self.assertIs(thing != stranger, True)
                self.assertIs(stranger != thing, True)

    def test_unlike_only_at_the_lowest_pair(self):
        ends = (Thing(ONE, NIL), Thing(NIL, ONE))
        for shape in (left, right):
            one, other = shape(3998, ends[0]), shape(3998, ends[1])
            self.assertEqual(len(one), 4000)
            self.assertEqual(len(other), 4000)
            self.assertNotEqual(one, other)
            self.assertEqual(one, shape(3998, Thing(ONE, NIL)))


class BoundTest(unittest.TestCase):
    def check_greatest(self, thing, again, text):
        self.assertEqual(len(thing), 4000)
        self.assertEqual(thing, again)
        self.assertFalse(thing != again)
        self.assertEqual(str(thing), text)
        self.assertEqual(repr(thing), "Thing " + text)
        self.check_refused(thing, NIL)
        self.check_refused(NIL, thing)
        self.check_refused(thing, thing)
        self.assertEqual(str(thing), text)
        self.assertEqual(len(thing), 4000)

    def check_refused(self, first, second):
        with self.assertRaises(TooGreat) as caught:
            Thing(first, second)
        self.assertEqual(caught.exception.bound, 4000)

    def test_deep_to_the_left(self):
        self.check_greatest(left(4000), left(4000), "(" * 4000 + "." + ".)" * 4000)

    def test_deep_to_the_right(self):
        self.check_greatest(right(4000), right(4000), "(." * 4000 + "." + ")" * 4000)

    def test_deep_by_turns(self):
        self.check_greatest(zigzag(4000), zigzag(4000), "((." * 2000 + "." + ").)" * 2000)

    def test_wide(self):
        half = full(11)
        self.assertEqual(len(half), 2047)
        again = Thing(full(11), left(1952))
        self.check_greatest(Thing(half, left(1952)), again, "(" + str(half) + str(left(1952)) + ")")
        self.check_refused(half, left(1953))
        self.check_refused(half, half)
        self.assertEqual(half, full(11))

    def test_deep_things_are_unlike(self):
        deep = [left(4000), right(4000), zigzag(4000), left(3999), right(3999)]
        for at, one in enumerate(deep):
            for place, other in enumerate(deep):
                self.assertIs(one == other, at == place)

    def test_heads_and_tails_all_the_way_down(self):
        thing, other = left(4000), right(4000)
        for size in range(4000, 0, -1):
            self.assertEqual(len(thing), size)
            self.assertEqual(len(other), size)
            self.assertFalse(thing.tail())
            self.assertFalse(other.head())
            thing, other = thing.head(), other.tail()
        self.assertEqual(thing, NIL)
        self.assertEqual(other, NIL)


class TextTest(unittest.TestCase):
    def test_text_and_repr(self):
        told = [(NIL, "."), (ONE, "(..)"), (Thing(NIL, ONE), "(.(..))"), (Thing(ONE, NIL), "((..).)"),
                (Thing(ONE, ONE), "((..)(..))"), (Thing(Thing(NIL, ONE), ONE), "((.(..))(..))")]
        for thing, text in told:
            self.assertEqual(str(thing), text)
            self.assertEqual(repr(thing), "Thing " + text)
            self.assertEqual(f"{thing}", text)

    def test_text_by_the_rule(self):
        for thing in small_things(6):
            self.assertEqual(str(thing), text_by_calls(thing))


if __name__ == "__main__":
    unittest.main()
