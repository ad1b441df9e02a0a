import unittest

from outandover.errors import InvalidPaper
from outandover.guidechecker import lets_guide
from checks import Checks
from samples import GO, STEP, WATCH, anything, nested

BREAKS = (('f', 0), ('f', 1), ('g', 10))
RULES = (('f', 'next', BREAKS, 1), (('g', 3), 'go', (), 0), ('', 'out', (('zz', 99),), 0))
TWO = (RULES, (('', 'step', (), 1),))


def with_rule(s, r, rule):
    """The guide TWO with another rule."""
    states = [list(state) for state in TWO]
    states[s][r] = rule
    return tuple([tuple(state) for state in states])


class CountTest(Checks):

    def test_ordinary(self):
        self.gives(1, lets_guide, WATCH)
        self.gives(1, lets_guide, GO)
        self.gives(2, lets_guide, thing=TWO)
        self.gives(6, lets_guide, (((('', 'step', (), 5),),) * 6))
        self.gives(1, lets_guide, ((('', 'step', (), 0), ('', 'next', (), 0), ('f', 'go', (), 0), ('', 'out', (), 0)),))

    def test_limits_are_not_looked_at(self):
        self.gives(50, lets_guide, STEP * 50)
        self.gives(1, lets_guide, ((('f', 'step', tuple([('f', k) for k in range(100)]), 0),) * 9 + STEP[0],))
        self.gives(1, lets_guide, (((('f', 10 ** 59), 'step', (('f', 10 ** 59),), 0), ('', 'go', (), 0)),))


class ShapeTest(Checks):

    def test_any_value(self):
        self.raises(InvalidPaper, ('shape', -1), lets_guide, TWO[0])
        self.raises(InvalidPaper, ('shape', -1), lets_guide, TWO[0][0])
        for thing in anything() + [list(TWO), ([],), ((),), (TWO[0], ()), (TWO[0], []), TWO + (None,)]:
            self.raises(InvalidPaper, ('shape', -1), lets_guide, thing)
            self.raises(InvalidPaper, ('shape', -1), lets_guide, (thing,))
            self.raises(InvalidPaper, ('shape', -1), lets_guide, TWO + (thing,))
            self.raises(InvalidPaper, ('shape', -1), lets_guide, ((RULES[0], thing, RULES[2]),))

    def test_parts_of_a_rule(self):
        spots = [('f', 0), ('life', 0)]
        for thing in anything():
            is_spot = repr(thing) in [repr(spot) for spot in spots]
            if not is_spot and thing not in ('', 'f', 'main', 'again', 'step'):
                self.raises(InvalidPaper, ('shape', -1), lets_guide, with_rule(0, 0, (thing, 'next', BREAKS, 1)))
            if not isinstance(thing, str) or thing != 'step':
                self.raises(InvalidPaper, ('shape', -1), lets_guide, with_rule(0, 0, ('f', thing, BREAKS, 1)))
            if repr(thing) not in ('()', "(('f', 0),)", "(('f', 0), ('life', 0))"):
                self.raises(InvalidPaper, ('shape', -1), lets_guide, with_rule(0, 0, ('f', 'next', thing, 1)))
            if not is_spot:
                self.raises(InvalidPaper, ('shape', -1), lets_guide, with_rule(0, 0, ('f', 'next', (thing,), 1)))
            if repr(thing) not in ('0', '1', repr(10 ** 59)):
                self.raises(InvalidPaper, ('shape', -1), lets_guide, with_rule(0, 0, ('f', 'next', BREAKS, thing)))

    def test_words(self):
        for command in ('Step', 'steps', '', 'back', 'nex', 'stop'):
            self.raises(InvalidPaper, ('shape', -1), lets_guide, ((('', command, (), 0),),))
        for where in ('F', 'f0', '*', 'ninechars', ' ', ('f', -1), ('', 0), ['f', 0], None):
            self.raises(InvalidPaper, ('shape', -1), lets_guide, ((where, 'go', (), 0), ('', 'go', (), 0)))
        for rule in (('', 'step', ()), ('', 'step', (), 0, 0), ['', 'step', (), 0], ('', 'step', [], 0)):
            self.raises(InvalidPaper, ('shape', -1), lets_guide, ((rule,),))
            self.raises(InvalidPaper, ('shape', -1), lets_guide, STEP + ((rule,),))
        self.raises(InvalidPaper, ('shape', -1), lets_guide, nested(28, ('', 'step', (), 0)))

    def test_shape_comes_first(self):
        wrong = (('f', 'next', (('g', 0), ('f', 0)), 7),)
        self.raises(InvalidPaper, ('shape', -1), lets_guide, (wrong, (('', 'step', (), True),)))


class FaultTest(Checks):

    def test_breaks(self):
        for breaks in ((('g', 0), ('f', 0)), (('f', 0), ('f', 0)), (('f', 10), ('f', 9)), BREAKS[::-1]):
            self.raises(InvalidPaper, ('breaks', (0, 0)), lets_guide, with_rule(0, 0, ('f', 'next', breaks, 1)))
            self.raises(InvalidPaper, ('breaks', (0, 2)), lets_guide, with_rule(0, 2, ('', 'next', breaks, 1)))
            self.raises(InvalidPaper, ('breaks', (1, 0)), lets_guide, with_rule(1, 0, ('', 'step', breaks, 1)))

    def test_state(self):
        for state in (2, 3, 10 ** 59):
            self.raises(InvalidPaper, ('state', (0, 1)), lets_guide, with_rule(0, 1, ('f', 'next', BREAKS, state)))
            self.raises(InvalidPaper, ('state', (1, 0)), lets_guide, with_rule(1, 0, ('', 'next', BREAKS, state)))
        self.raises(InvalidPaper, ('state', (0, 0)), lets_guide, ((('', 'step', (), 1),),))

    def test_last(self):
        for where in ('f', ('f', 0), 'state'):
            self.raises(InvalidPaper, ('last', 0), lets_guide, with_rule(0, 2, (where, 'next', BREAKS, 1)))
            self.raises(InvalidPaper, ('last', 1), lets_guide, with_rule(1, 0, (where, 'next', BREAKS, 1)))

    def test_two_at_once(self):
        down = (('g', 0), ('f', 0))
        self.raises(InvalidPaper, ('breaks', (0, 0)), lets_guide, ((('f', 'next', down, 9),),))
        self.raises(InvalidPaper, ('state', (0, 0)), lets_guide, ((('f', 'go', (), 9), ('f', 'next', down, 0)),))
        self.raises(InvalidPaper, ('breaks', (0, 1)), lets_guide, ((('f', 'go', (), 0), ('f', 'next', down, 0)),))
        self.raises(InvalidPaper, ('last', 0), lets_guide, ((('f', 'go', (), 1),), (('', 'next', down, 0),)))
        self.raises(InvalidPaper, ('state', (0, 1)), lets_guide, ((('', 'go', (), 0), ('f', 'go', (), 2)), STEP[0]))
        self.raises(InvalidPaper, ('breaks', (1, 0)), lets_guide, (STEP[0], (('f', 'go', down, 2),), (('f', 'go', (), 0),)))


if __name__ == '__main__':
    unittest.main()
