import unittest
from random import Random

from outandover.breakpoints import Breaks
from outandover.errors import NotUsable
from checks import Checks
from samples import anything

A, B, C = ('a', 0), ('a', 10), ('b', 9)
SPOTS = (A, ('a', 2), B, C, ('zz', 0))


def is_spot_in_tests(thing):
    return repr(thing) in ("('f', 0)", "('life', 0)")


def kept(breaks):
    """All spots of an object, with whether they are on."""
    return [(spot, breaks[spot]) for spot in breaks]


class BreaksTest(Checks):

    def test_at_first_all_are_on(self):
        breaks = Breaks(C, B, A, B)
        self.same((A, B, C), breaks.on)
        self.same([A, B, C], list(breaks))
        self.same(3, len(breaks))
        self.same([(A, True), (B, True), (C, True)], kept(breaks))
        self.same(((), 0, []), (Breaks().on, len(Breaks()), list(Breaks())))

    def test_no_spots(self):
        for thing in anything():
            if not is_spot_in_tests(thing):
                self.raises(NotUsable, ('spot', thing), Breaks, thing)
                self.raises(NotUsable, ('spot', thing), Breaks, A, thing, None)
        self.raises(NotUsable, ('spot', ('a', True)), Breaks, ('a', 1), ('a', True))

    def test_assigned(self):
        breaks = Breaks(B)
        breaks[A] = False
        breaks[C] = True
        self.same([(A, False), (B, True), (C, True)], kept(breaks))
        self.same((B, C), breaks.on)
        breaks[B] = False
        breaks[A] = True
        breaks[A] = True
        self.same([(A, True), (B, False), (C, True)], kept(breaks))
        self.same((A, C), breaks.on)
        self.same(3, len(breaks))
        breaks[C] = False
        breaks[A] = False
        self.same((), breaks.on)
        self.same([A, B, C], list(breaks))

    def test_wrong_assignments(self):
        breaks = Breaks(A)
        for thing in anything():
            if not is_spot_in_tests(thing):
                self.raises(NotUsable, ('spot', thing), breaks.__setitem__, thing, True)
                self.raises(NotUsable, ('spot', thing), breaks.__setitem__, thing, None)
            if thing is not True and thing is not False:
                self.raises(NotUsable, ('on', thing), breaks.__setitem__, A, thing)
                self.raises(NotUsable, ('on', thing), breaks.__setitem__, ('new', 3), thing)
        self.raises(NotUsable, ('spot', ('a', False)), breaks.__setitem__, ('a', False), 1)
        self.raises(NotUsable, ('on', 1), breaks.__setitem__, A, 1)
        self.raises(NotUsable, ('on', 0), breaks.__setitem__, A, 0)
        self.same([(A, True)], kept(breaks))

    def test_asked(self):
        breaks = Breaks(A, C)
        breaks[C] = False
        self.same((True, False), (breaks[A], breaks[C]))
        for thing in anything() + [B, ('a', False), ['a', 0], ('a', 0, 0)]:
            self.raises(NotUsable, ('spot', thing), breaks.__getitem__, thing)
            self.assertIs(thing in breaks, False)
        self.assertIs(A in breaks, True)
        self.assertIs(C in breaks, True)

    def test_both(self):
        a, b = Breaks(A, B), Breaks(B, C)
        a[B] = False
        b[C] = False
        self.same([(A, True), (B, True), (C, False)], kept(a | b))
        self.same([(A, True), (B, True), (C, False)], kept(b | a))
        b[B] = False
        self.same([(A, True), (B, False), (C, False)], kept(a | b))
        self.same([(A, True)], kept(a - b))
        self.same([(C, False)], kept(b - a))
        self.assertIs((a | b).__class__, Breaks)
        self.assertIs((a - b).__class__, Breaks)
        self.same([], kept(a - a))
        self.same(kept(a), kept(a | Breaks()))
        self.same(kept(a), kept(a - Breaks(C)))

    def test_new_objects(self):
        a, b = Breaks(A), Breaks(B)
        both, less = a | b, a - b
        both[C] = True
        both[A] = False
        less[A] = False
        self.same(([(A, True)], [(B, True)]), (kept(a), kept(b)))
        a[A] = False
        b[C] = True
        self.same([(A, False), (B, True), (C, True)], kept(both))
        self.same([(A, False)], kept(less))

    def test_in_place(self):
        a, b = Breaks(A, B), Breaks(B, C)
        a[B] = False
        b[C] = False
        same = a
        a |= b
        self.assertIs(a, same)
        self.same([(A, True), (B, True), (C, False)], kept(same))
        a[C] = True
        self.same([(B, True), (C, False)], kept(b))
        a -= b
        self.assertIs(a, same)
        self.same([(A, True)], kept(same))
        a |= a
        self.same([(A, True)], kept(a))
        a -= a
        self.same([], kept(same))

    def test_by_chance(self):
        for seed in range(300):
            chance = Random(seed)
            objects = [Breaks() for _ in range(3)]
            tables = [{} for _ in range(3)]
            for _ in range(25):
                i, j = chance.randrange(3), chance.randrange(3)
                spot, on = chance.choice(SPOTS), chance.random() < 0.5
                kind = chance.randrange(6)
                both = {s: tables[i].get(s, False) or tables[j].get(s, False) for s in {**tables[i], **tables[j]}}
                less = {s: tables[i][s] for s in tables[i] if s not in tables[j]}
                if kind < 2:
                    objects[i][spot] = on
                    tables[i][spot] = on
                elif kind == 2:
                    objects[i] |= objects[j]
                    tables[i] = both
                elif kind == 3:
                    objects[i] -= objects[j]
                    tables[i] = less
                elif kind == 4:
                    self.same(sorted(both.items()), kept(objects[i] | objects[j]))
                else:
                    self.same(sorted(less.items()), kept(objects[i] - objects[j]))
                for one, table in zip(objects, tables):
                    self.same(sorted(table.items()), kept(one))
                    self.same(tuple(sorted([s for s in table if table[s]])), one.on)
                    self.same(len(table), len(one))
                    self.assertEqual([s in one for s in SPOTS], [s in table for s in SPOTS])

    def test_on_is_only_told(self):
        with self.assertRaises(AttributeError):
            Breaks(A).on = ()


if __name__ == '__main__':
    unittest.main()
