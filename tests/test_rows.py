"""Numbers and rows: point 5 of the document."""

import unittest

from judgeslip.errors import TooGreat
from judgeslip.things import Thing, counted, number, parts, row, yes
from shapes import NIL, ONE, left, right, small_things


class NumberTest(unittest.TestCase):
    def test_numbers(self):
        self.assertEqual(number(0), Thing())
        self.assertEqual(number(1), Thing(NIL, NIL))
        self.assertEqual(number(2), Thing(NIL, Thing(NIL, NIL)))
        self.assertEqual(number(n=3), Thing(NIL, Thing(NIL, Thing(NIL, NIL))))
        self.assertEqual(str(number(200)), "(." * 200 + "." + ")" * 200)

    def test_there_and_back(self):
        for n in range(201):
            told = counted(number(n))
            self.assertEqual(told, n)
            self.assertIs(type(told), int)
        self.assertEqual(counted(thing=number(7)), 7)

    def test_greater_than_200(self):
        for n in (201, 400, 1000, 3999, 4000):
            self.assertEqual(counted(right(n)), n)
            self.assertEqual(number(n), right(n))

    def test_a_number_too_great(self):
        with self.assertRaises(TooGreat) as caught:
            number(4001)
        self.assertEqual(caught.exception.bound, 4000)

    def test_things_of_no_number(self):
        for thing in (Thing(ONE, NIL), Thing(NIL, Thing(ONE, NIL)), Thing(ONE, ONE), left(2), left(4000),
                      right(3998, Thing(ONE, NIL)), Thing(ONE, number(199))):
            self.assertIsNone(counted(thing))

    def test_each_small_thing(self):
        for thing in small_things(5):
            told = counted(thing)
            if thing == right(len(thing)):
                self.assertEqual(told, len(thing))
            else:
                self.assertIsNone(told)

    def test_yes(self):
        self.assertEqual(yes(), Thing(Thing(), Thing()))
        self.assertEqual(str(yes()), "(..)")


class RowTest(unittest.TestCase):
    def test_rows(self):
        self.assertEqual(row([]), NIL)
        self.assertEqual(row([ONE]), Thing(ONE, NIL))
        self.assertEqual(row([NIL]), Thing(NIL, NIL))
        two = number(2)
        self.assertEqual(row(things=[two, NIL, ONE]), Thing(two, Thing(NIL, Thing(ONE, NIL))))

    def test_there_and_back(self):
        for many in (0, 1, 2, 3, 50, 200):
            things = [number(at % 5) for at in range(many)]
            told = row(things)
            self.assertEqual(parts(told), things)
            self.assertEqual(len(told), many + sum(at % 5 for at in range(many)))

    def test_a_row_of_one_thing_many_times(self):
        part = Thing(ONE, ONE)
        self.assertEqual(parts(row([part] * 200)), [part] * 200)

    def test_a_row_of_4000_pairs(self):
        things = [number(19)] * 200
        told = row(things)
        self.assertEqual(len(told), 4000)
        self.assertEqual(parts(told), things)
        self.assertEqual(len(row([left(3999)])), 4000)
        self.assertEqual(len(row([NIL] * 4000)), 4000)

    def test_rows_that_are_too_great(self):
        most = [number(19)] * 200
        for things in (most[:-1] + [number(20)], [number(20)] + most[1:], [left(4000)], [right(4000), NIL],
                       [NIL, left(3999)], [left(400)] * 200, most + [NIL]):
            kept = list(things)
            with self.assertRaises(TooGreat) as caught:
                row(things)
            self.assertEqual(caught.exception.bound, 4000)
            self.assertEqual(things, kept)

    def test_the_list_handed_in_stays_and_may_be_changed(self):
        things = [ONE, NIL, number(2)]
        told = row(things)
        self.assertEqual(things, [ONE, NIL, number(2)])
        things.reverse()
        things.append(ONE)
        things[0] = number(9)
        self.assertEqual(told, Thing(ONE, Thing(NIL, Thing(number(2), NIL))))
        self.assertEqual(parts(told), [ONE, NIL, number(2)])


class PartsTest(unittest.TestCase):
    def test_parts(self):
        self.assertEqual(parts(NIL), [])
        self.assertEqual(parts(number(4)), [NIL] * 4)
        self.assertEqual(parts(thing=Thing(number(3), Thing(NIL, ONE))), [number(3), NIL, NIL])
        self.assertEqual(parts(left(4000)), [left(3999)])
        self.assertEqual(parts(right(4000)), [NIL] * 4000)

    def test_every_thing_is_a_row(self):
        for thing in small_things(6):
            told = parts(thing)
            self.assertIs(type(told), list)
            self.assertEqual(row(told), thing)

    def test_the_list_is_new_each_time(self):
        thing = row([ONE, number(2)])
        told = parts(thing)
        self.assertIsNot(parts(thing), told)
        told.append(NIL)
        told[0] = number(5)
        self.assertEqual(parts(thing), [ONE, number(2)])
        self.assertEqual(thing, row([ONE, number(2)]))
        none = parts(NIL)
        none.append(ONE)
        self.assertEqual(parts(NIL), [])
        self.assertEqual(parts(Thing()), [])


if __name__ == "__main__":
    unittest.main()
