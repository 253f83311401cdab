"""Cut things, cut stands and closed sets: point 17 of the document."""

import unittest

from judgeslip.cuts import closed, cut, cut_steps
from judgeslip.programs import Program
from judgeslip.runs import run, stands
from judgeslip.things import Thing, number
from judgeslip.words import read_program
from cutting import covers, draw_cut, every_cut, needs_depth, plain_closed, plain_cut, plain_steps, same_answers
from drawing import draw_program, draw_thing, how_many, source
from shapes import NIL, ONE, full, left, right, small_things, zigzag

ANY = (None,) * 10


def cuts(**told):
    """Ten cut things: (), but where another one is told."""
    return tuple(told.get(letter, ()) for letter in "abcdefghij")


def leads(text, depth, point=0, **told):
    return cut_steps(read_program(text), (point, cuts(**told)), depth)


class CutTest(unittest.TestCase):
    def test_nil(self):
        self.assertIsNone(cut(NIL, 0))
        for depth in range(1, 5):
            self.assertEqual(cut(NIL, depth), ())
            self.assertIs(type(cut(NIL, depth)), tuple)

    def test_pairs(self):
        self.assertIsNone(cut(ONE, 0))
        self.assertEqual(cut(ONE, 1), (None, None))
        for depth in (2, 3, 4):
            self.assertEqual(cut(ONE, depth), ((), ()))
        self.assertEqual(cut(number(2), 2), ((), (None, None)))
        self.assertEqual(cut(number(2), 3), ((), ((), ())))
        self.assertEqual(cut(left(2), 2), ((None, None), ()))
        self.assertEqual(cut(Thing(ONE, number(3)), 3), (((), ()), ((), (None, None))))

    def test_deep_ones(self):
        for thing in (left(4000), right(4000), zigzag(4000), full(11)):
            self.assertIsNone(cut(thing, 0))
            for depth in range(1, 5):
                self.assertEqual(cut(thing, depth), plain_cut(thing, depth))
        self.assertEqual(cut(right(4000), 4), ((), ((), ((), (None, None)))))
        self.assertEqual(cut(left(4000), 4), ((((None, None), ()), ()), ()))

    def test_all_small_ones(self):
        for thing in small_things(5):
            for depth in range(5):
                self.assertEqual(cut(thing, depth), plain_cut(thing, depth))

    def test_by_keyword(self):
        self.assertEqual(cut(thing=ONE, depth=1), (None, None))
        self.assertEqual(cut(depth=2, thing=ONE), ((), ()))


class StepTest(unittest.TestCase):
    def test_told(self):
        for depth in range(1, 5):
            for thing in (NIL, ONE, number(2), left(3), full(5)):
                program = Program((("told", 3, thing),))
                self.assertEqual(cut_steps(program, (0, ANY), depth),
                                 [(1, ANY[:3] + (plain_cut(thing, depth),) + ANY[4:])])

    def test_first_and_second(self):
        for depth in range(1, 5):
            for kind in ("first", "second"):
                self.assertEqual(leads(f"b = {kind} c", depth, b=(None, None), c=None), [(1, cuts(b=None, c=None))])
                self.assertEqual(leads(f"b = {kind} c", depth, b=(None, None), c=()), [(1, cuts(b=(), c=()))])
                self.assertEqual(leads(f"b = {kind} c", depth, b=(), c=(None, None)),
                                 [(1, cuts(b=None, c=(None, None)))])
        told = ((), (None, None))
        for depth in (2, 3, 4):
            self.assertEqual(leads("b = first c", depth, b=None, c=told), [(1, cuts(b=(), c=told))])
            self.assertEqual(leads("b = second c", depth, b=None, c=told), [(1, cuts(b=(None, None), c=told))])
            self.assertEqual(leads("c = second c", depth, c=told), [(1, cuts(c=(None, None)))])
        # A part isn't made deeper again.
        self.assertEqual(leads("a = first a ; a = first a", 2, a=((None, None), ()))[0][1][0], (None, None))
        self.assertEqual(leads("a = first a ; a = first a", 2, point=1, a=(None, None))[0][1][0], None)

    def test_pair(self):
        self.assertEqual(leads("a = pair b c", 1, b=(), c=(None, None)), [(1, cuts(a=(None, None), c=(None, None)))])
        self.assertEqual(leads("a = pair b c", 2, b=(), c=((), ())), [(1, cuts(a=((), (None, None)), c=((), ())))])
        self.assertEqual(leads("a = pair b c", 3, b=None, c=((), ())),
                         [(1, cuts(a=(None, ((), ())), b=None, c=((), ())))])
        self.assertEqual(leads("a = pair a a", 4, a=(None, ())), [(1, cuts(a=((None, ()), (None, ()))))])
        deep = ((((), ()), ()), ())
        self.assertEqual(leads("a = pair a b", 4, a=deep), [(1, cuts(a=((((None, None), ()), ()), ())))])

    def test_same_of_alike_ones(self):
        yes = {1: (None, None), 2: ((), ()), 3: ((), ()), 4: ((), ())}
        for depth in range(1, 5):
            self.assertEqual(leads("a = same b c", depth), [(1, cuts(a=yes[depth]))])
            self.assertEqual(leads("a = same b b", depth, b=None), [(1, cuts(a=yes[depth], b=None)), (1, cuts(b=None))])
            pair = (None, None)
            self.assertEqual(leads("a = same b c", depth, b=pair, c=pair),
                             [(1, cuts(a=yes[depth], b=pair, c=pair)), (1, cuts(b=pair, c=pair))])
        for depth in (2, 3, 4):
            pair = ((), ())
            self.assertEqual(leads("a = same b c", depth, b=pair, c=pair), [(1, cuts(a=((), ()), b=pair, c=pair))])
            self.assertEqual(len(leads("a = same b c", depth, b=((), None), c=((), None))), 2)

    def test_same_of_unlike_ones(self):
        for depth in range(1, 5):
            self.assertEqual(leads("a = same b c", depth, b=(None, None)), [(1, cuts(b=(None, None)))])
            self.assertEqual(leads("a = same c b", depth, b=(None, None)), [(1, cuts(b=(None, None)))])
            # Above: all that the one says stands below the other's None.
            self.assertEqual(len(leads("a = same b c", depth, b=None)), 2)
            self.assertEqual(len(leads("a = same b c", depth, b=None, c=(None, None))), 2)
        for depth in (2, 3, 4):
            # Beside: a None in the heads doesn't hide that the tails are unlike.
            one, other = (None, ()), (None, (None, None))
            self.assertEqual(leads("a = same b c", depth, b=one, c=other), [(1, cuts(b=one, c=other))])
            self.assertEqual(leads("a = same b c", depth, b=(None, ()), c=((), (None, None))),
                             [(1, cuts(b=(None, ()), c=((), (None, None))))])
            # There: one of both has None at the only place where they aren't alike.
            self.assertEqual(len(leads("a = same b c", depth, b=(None, ()), c=((), ()))), 2)
        for depth in (3, 4):
            # Below: the one's None is deeper than what is unlike.
            one, other = (((), None), ()), ((), ())
            self.assertEqual(leads("a = same b c", depth, b=one, c=other), [(1, cuts(b=one, c=other))])
            self.assertEqual(len(leads("a = same b c", depth, b=(((), None), ()), c=(None, ()))), 2)

    def test_same_of_all_small_cuts(self):
        program = read_program("a = same b c")
        for one in every_cut(2):
            for other in every_cut(2):
                stand = (0, cuts(b=one, c=other))
                self.assertEqual(len(cut_steps(program, stand, 2)), len(same_answers(one, other)))
                self.assertEqual(cut_steps(program, stand, 2), plain_steps(program, stand, 2))

    def test_looks_of_a_while(self):
        for depth in range(1, 5):
            text = "while b [ a = . ; a = . ] ; a = ."
            self.assertEqual(leads(text, depth, b=()), [(3, cuts())])
            self.assertEqual(leads(text, depth, b=(None, None)), [(1, cuts(b=(None, None)))])
            self.assertEqual(leads(text, depth, b=None), [(1, cuts(b=None)), (3, cuts(b=None))])
            self.assertEqual(leads(text, depth, point=2, b=None), [(0, cuts(b=None))])
            self.assertEqual(leads("while b [ ] ; a = .", depth, b=()), [(1, cuts())])
            self.assertEqual(leads("while b [ ] ; a = .", depth, b=(None, None)), [(0, cuts(b=(None, None)))])
            self.assertEqual(leads("while b [ ]", depth, b=None), [(0, cuts(b=None)), (1, cuts(b=None))])

    def test_looks_of_an_if(self):
        for depth in range(1, 5):
            text = "if b [ a = . ; a = . ] [ a = . ] ; a = ."
            self.assertEqual(leads(text, depth, b=()), [(3, cuts())])
            self.assertEqual(leads(text, depth, b=(None, None)), [(1, cuts(b=(None, None)))])
            self.assertEqual(leads(text, depth, b=None), [(1, cuts(b=None)), (3, cuts(b=None))])
            self.assertEqual(leads("if b [ ] [ a = . ] ; a = .", depth, b=None), [(2, cuts(b=None)), (1, cuts(b=None))])
            self.assertEqual(leads("if b [ a = . ] [ ] ; a = .", depth, b=None), [(1, cuts(b=None)), (2, cuts(b=None))])
            # Both ways lead to one and the same.
            for told in (None, (), (None, None)):
                self.assertEqual(leads("if b [ ] [ ] ; a = .", depth, b=told), [(1, cuts(b=told))])
            self.assertEqual(leads("while b [ if c [ ] [ ] ]", depth, point=1, c=None), [(0, cuts(c=None))])

    def test_at_the_end(self):
        for text, end in (("", 0), ("a = .", 1), ("while a [ a = . ]", 2)):
            for depth in range(1, 5):
                self.assertEqual(cut_steps(read_program(text), (end, ANY), depth), [])
        self.assertEqual(leads("a = .", 1), [(1, cuts())])

    def test_each_name(self):
        for name in range(10):
            told = tuple((None, None) if at == name else () for at in range(10))
            program = Program((("while", name, (("first", name, name),)),))
            self.assertEqual(cut_steps(program, (0, told), 1), [(1, told)])
            self.assertEqual(cut_steps(program, (1, told), 1),
                             [(0, told[:name] + (None,) + told[name + 1:])])

    def test_drawn_ones(self):
        chance = source("cut steps")
        for _ in range(400):
            program = draw_program(chance, chance.randint(1, 12), names=chance.randint(1, 10), told=12)
            depth = chance.randint(1, 4)
            for point in range(len(program) + 1):
                stand = (point, tuple(draw_cut(chance, depth) for _ in range(10)))
                self.assertEqual(cut_steps(program, stand, depth), plain_steps(program, stand, depth), str(program))

    def test_lists_are_the_asker_s_own(self):
        program = read_program("a = same a b ; while a [ a = first a ]")
        stand = (0, cuts(a=None))
        told = cut_steps(program=program, stand=stand, depth=2)
        kept = list(told)
        self.assertIs(type(told), list)
        self.assertEqual(len(told), 2)
        told.clear()
        self.assertEqual(cut_steps(program, stand, 2), kept)
        again = cut_steps(depth=2, program=program, stand=stand)
        again.append(None)
        self.assertEqual(cut_steps(program, stand, 2), kept)
        self.assertEqual(stand, (0, cuts(a=None)))


class ClosedTest(unittest.TestCase):
    def test_told_ones(self):
        for depth in range(1, 5):
            program = read_program("while a [ ]")
            self.assertEqual(closed(program, ONE, depth), [(0, (plain_cut(ONE, depth),) + ((),) * 9)])
        # It grows for ever, so no run of it comes again.
        program = read_program("while a [ b = pair b a ]")
        self.assertEqual(closed(program, ONE, 1), [
            (0, cuts(a=(None, None))), (1, cuts(a=(None, None))),
            (0, cuts(a=(None, None), b=(None, None))), (1, cuts(a=(None, None), b=(None, None)))])

    def test_order(self):
        # Both ways of a look, and both answers of a same, stand in the order of the told lists, level by level.
        program = read_program("b = (..) ; while b [ c = first a ; if c [ d = pair d d ] [ e = same c c ] ]")
        found = closed(program, ONE, 1)
        self.assertEqual([point for point, _ in found[:6]], [0, 1, 2, 3, 4, 5])
        self.assertEqual(found, plain_closed(program, ONE, 1, 300))
        told = {found[0]: True}
        for stand in found:
            for later in cut_steps(program, stand, 1):
                told.setdefault(later, True)
        self.assertEqual(list(told), found)

    def test_the_end_among_them(self):
        for depth in range(1, 5):
            for thing in (NIL, ONE, number(3)):
                self.assertIsNone(closed(Program(()), thing, depth))
                self.assertIsNone(closed(read_program("a = ."), thing, depth))
                self.assertIsNone(closed(read_program("while a [ a = second a ]"), thing, depth))
            self.assertIsNone(closed(read_program("while b [ ]"), ONE, depth))
        # The end isn't come to by the run, but the cut stands don't tell.
        program = read_program("while a [ b = first a ; a = pair b b ]")
        self.assertIsNotNone(closed(program, ONE, 1))
        program = read_program("while a [ b = first a ; c = pair b b ; a = first c ; a = pair a c ; a = second a ]")
        self.assertIsNotNone(closed(program, ONE, 2))
        self.assertIsNone(closed(program, ONE, 1))

    def test_each_depth_is_the_first_to_tell(self):
        for depth in range(1, 5):
            program = needs_depth(depth)
            for told in range(1, 5):
                self.assertEqual(closed(program, NIL, told) is None, told < depth)

    def test_most(self):
        program = read_program("while a [ b = pair b a ]")
        self.assertEqual(len(closed(program, ONE, 1, 4)), 4)
        self.assertEqual(len(closed(program, ONE, 1, most=4)), 4)
        self.assertIsNone(closed(program, ONE, 1, 3))
        self.assertIsNone(closed(program, ONE, 1, 1))
        self.assertEqual(len(closed(read_program("while a [ ]"), ONE, 4, 1)), 1)

    def test_most_left_out_and_500(self):
        for many, least in ((299, 299), (300, 300), (301, None), (499, None), (500, None)):
            program = of_so_many(many)
            told = closed(program, ONE, 1)
            self.assertEqual(None if told is None else len(told), least)
            self.assertEqual(len(closed(program, ONE, 1, 500)), many)
            self.assertIsNone(closed(program, ONE, 1, many - 1))
            self.assertEqual(len(closed(program=program, thing=ONE, depth=1, most=many)), many)
        self.assertIsNone(closed(of_so_many(501), ONE, 1, 500))

    def test_drawn_ones(self):
        chance = source("closed")
        seen = 0
        for _ in range(500):
            program = draw_program(chance, chance.randint(1, 10), names=chance.randint(1, 4), told=6)
            thing, depth = draw_thing(chance, chance.randint(0, 8)), chance.randint(1, 4)
            most = chance.choice([1, 5, 20, 60])
            found = closed(program, thing, depth, most)
            self.assertEqual(found, plain_closed(program, thing, depth, most), f"{program} / {thing} / {depth}")
            if found is not None:
                seen += 1
                self.check_run_is_in(program, thing, depth, found)
        self.assertGreater(seen, 40)

    def check_run_is_in(self, program, thing, depth, found):
        """Each stand of the run is one of which a cut stand of the set tells nothing that isn't so."""
        self.assertNotEqual(run(program, thing, 300).word, "ended")
        for stand in stands(program, thing, 40):
            self.assertTrue(any(
                point == stand.point and all(covers(told, part, depth) for told, part in zip(names, stand.names))
                for point, names in found), f"{program} / {thing} / {stand.point}")

    def test_the_stands_of_a_run_are_in_it(self):
        # Where no first or second comes upon what was cut off these stands, cut, are just such of the set.
        for text, thing in (("while a [ b = pair b a ]", ONE), ("while a [ b = (.(..)) ; c = pair b c ]", number(3)),
                            ("while a [ b = pair a b ; while b [ b = . ] ]", full(5))):
            for depth in (1, 2, 3):
                program = read_program(text)
                found = closed(program, thing, depth)
                for stand in stands(program, thing, 60):
                    told = (stand.point, tuple(plain_cut(part, depth) for part in stand.names))
                    self.assertIn(told, found)

    def test_lists_are_the_asker_s_own(self):
        program = read_program("while a [ b = pair b a ]")
        told = closed(program, ONE, 2)
        kept = list(told)
        self.assertIs(type(told), list)
        for stand in told:
            self.assertIs(type(stand), tuple)
            self.assertIs(type(stand[1]), tuple)
            self.assertEqual(len(stand[1]), 10)
            self.assertLess(stand[0], how_many(program.deeds))
        told.reverse()
        told.pop()
        self.assertEqual(closed(program, ONE, 2), kept)


def of_so_many(many):
    """A program with a closed set of just so many cut stands on yes: two for its while, and one for each deed."""
    told = tuple(("told", 1, NIL) for _ in range(many - 1))
    return Program((("while", 0, told),))


if __name__ == "__main__":
    unittest.main()
