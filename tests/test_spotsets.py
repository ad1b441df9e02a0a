import unittest
from itertools import permutations
from random import Random

from outandover.errors import InvalidText, NotUsable
from outandover.kinds import is_spot
from outandover.programparts import spots_of
from outandover.programs import Program
from outandover.spotsets import Spots
from checks import Checks
from samples import AGAIN, PROGRAM, SAMPLES, anything

E, F, G, H = ('e', 5), ('f', 1), ('g', 0), ('h', 10)
SIXTY = int('9' * 60)


def some(seed, most=6):
    """Spots by chance; the same for the same seed."""
    chance = Random(seed)
    return [(chance.choice('abc'), chance.choice((0, 2, 9, 10, 100))) for _ in range(chance.randint(0, most))]


class SpotsTest(Checks):

    def test_any_order_and_duplicates(self):
        for spots in permutations((E, F, G, F)):
            self.same((E, F, G), Spots(*spots).members)
        self.same((), Spots().members)
        self.same((('f', 2), ('f', 9), ('f', 10), ('f', 100), ('g', 1)),
                  Spots(('f', 100), ('g', 1), ('f', 9), ('f', 10), ('f', 2), ('f', 9)).members)

    def test_wrong_spots(self):
        for thing in anything():
            if not is_spot(thing):
                self.raises(NotUsable, ('spot', thing), Spots, thing)
                self.raises(NotUsable, ('spot', thing), Spots, F, thing, None)
        self.raises(NotUsable, ('spot', ('f', True)), Spots, F, ('f', True), ('f', -1))

    def test_members_is_read_only(self):
        with self.assertRaises(AttributeError):
            Spots().members = ()

    def test_operators(self):
        a, b = Spots(E, F, G), Spots(G, H)
        self.same((E, F, G, H), (a | b).members)
        self.same((G,), (a & b).members)
        self.same((E, F), (a - b).members)
        self.same((H,), (b - a).members)
        self.same((E, F, H), (a ^ b).members)
        self.same(((E, F, G), (G, H)), (a.members, b.members))
        for found in (a | a, a & a):
            self.assertEqual(found, a)
            self.assertIsNot(found, a)
        for found in (a - a, a ^ a, a & Spots(), Spots() - a):
            self.same((), found.members)

    def test_in_place(self):
        for word, result in (('|', (E, F, G, H)), ('&', (G,)), ('-', (E, F))):
            a, b = Spots(E, F, G), Spots(G, H)
            same, twin = a, Spots(E, F, G)
            if word == '|':
                a |= b
            elif word == '&':
                a &= b
            else:
                a -= b
            self.assertIs(a, same)
            self.same(result, same.members)
            self.same(((G, H), (E, F, G)), (b.members, twin.members))

    def test_in_place_with_itself(self):
        a = same = Spots(E, F)
        a |= a
        a &= a
        self.same((E, F), same.members)
        a -= a
        self.assertIs(a, same)
        self.same((), same.members)

    def test_results_go_their_own_way(self):
        a, b = Spots(E), Spots(F)
        both = a | b
        a |= Spots(G)
        both -= b
        self.same(((E, G), (F,), (E,)), (a.members, b.members, both.members))
        kept = a.members
        a -= a
        self.same((E, G), kept)

    def test_lies_in(self):
        self.assertIs(Spots(F).lies_in(Spots(E, F)), True)
        self.assertIs(Spots(E, F).lies_in(other=Spots(F)), False)
        self.assertIs(Spots().lies_in(Spots()), True)
        self.assertIs(Spots().lies_in(Spots(F)), True)
        self.assertIs(Spots(F).lies_in(Spots()), False)
        self.assertIs(Spots(F, E).lies_in(Spots(E, F)), True)

    def test_in(self):
        a = Spots(('f', 1), ('f', 0))
        self.assertIs(('f', 1) in a, True)
        for thing in anything() + [('f', True), ('f', False), ('g', 0), a, ['f', 1]]:
            self.assertIs(thing in a, repr(thing) in ("('f', 0)", "('f', 1)"))

    def test_len_and_truth(self):
        self.same([0, 1, 2], [len(Spots()), len(Spots(F, F)), len(Spots(F, E))])
        self.same([False, True], [bool(Spots()), bool(Spots(F))])

    def test_equal(self):
        self.assertIs(Spots(E, F) == Spots(F, E, E), True)
        self.assertIs(Spots(E, F) != Spots(F, E), False)
        self.assertIs(Spots(E) == Spots(E, F), False)
        for thing in anything() + [(E, F), [E, F], Program(), 'e:5 f:1']:
            self.assertIs(Spots(E, F) == thing, False)
        self.assertIs(Spots() == (), False)

    def test_iterated_over(self):
        self.same([E, F, G], list(Spots(G, F, E)))
        self.same([], list(Spots()))
        a = Spots(G, F)
        self.same([(F, F), (F, G), (G, F), (G, G)], [(one, two) for one in a for two in a])

    def test_text(self):
        self.same('-', str(Spots()))
        self.same('f:1 g:0 h:9 h:10', str(Spots(('h', 10), ('h', 9), G, F)))

    def test_of_program(self):
        for program in SAMPLES:
            self.same(spots_of(program), Spots.of_program(program).members)
            self.assertEqual(Spots.of_program(program=program), Spots(*Program(program).spots))

    def test_read(self):
        self.same((E, F, H), Spots.read('h:10 e:5 f:1 e:5').members)
        self.same((), Spots.read(text='-').members)
        self.same((('f', SIXTY),), Spots.read(f'f:{SIXTY}').members)
        self.raises(InvalidText, (0, 1), Spots.read, '- f:0')
        self.raises(InvalidText, (0, 0), Spots.read, '')
        self.raises(InvalidText, (0, 1), Spots.read, text='f:0 f:01')
        self.raises(InvalidText, (0, 1), Spots.read, 'f:0 f:1\n')


class ConsequencesTest(Checks):

    def test_reading_what_was_written(self):
        for seed in range(50):
            a = Spots(*some(seed))
            self.assertEqual(Spots.read(str(a)), a)
            self.same(str(a), str(Spots.read(str(a))))

    def test_members_are_ascending_however_they_were_written(self):
        a = Spots.read('g:0 f:10 f:9 g:0')
        self.same((('f', 9), ('f', 10), ('g', 0)), a.members)
        self.same('f:9 f:10 g:0', str(a))

    def test_sets(self):
        for seed in range(60):
            a, b, c = Spots(*some(seed)), Spots(*some(seed + 1000)), Spots(*some(seed + 2000))
            self.assertEqual(a == b, a.lies_in(b) and b.lies_in(a))
            self.assertEqual(a ^ b, (a | b) - (a & b))
            self.assertEqual(a - (b | c), (a - b) & (a - c))
            for found, expected in ((a | b, set(a) | set(b)), (a & b, set(a) & set(b)), (a - b, set(a) - set(b)),
                                    (a ^ b, set(a) ^ set(b))):
                self.same(tuple(sorted(expected)), found.members)
            self.assertEqual(a.lies_in(b), set(a) <= set(b))

    def test_a_function_more(self):
        for program in SAMPLES:
            more = Program(program) + ('new', ((('',), (('back',),), ()),))
            self.assertTrue(Spots.of_program(program).lies_in(Spots.of_program(more.functions)))
            self.assertFalse(Spots.of_program(more.functions).lies_in(Spots.of_program(program)))
        self.same(2, len(Spots.of_program(AGAIN) & Spots(*spots_of(AGAIN))))
        self.same(0, len(Spots.of_program(AGAIN) & Spots.of_program(PROGRAM)))


if __name__ == '__main__':
    unittest.main()
