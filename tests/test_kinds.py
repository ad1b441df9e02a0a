import inspect
import unittest

from outandover import kinds
from checks import Checks
from samples import AGAIN, BACK, F, G, MAIN, PROGRAM, RING, anything, nested

LINE = (('', 'f'), (0, BACK, ('fail', 'bad')), (('bad', 0), ('', 1)))

NAMES = ['a', 'z', 'f', 'main', 'abcdefgh', 'back', 'fail', 'function', 'zzzzzzzz']
NO_NAMES = [
    '', 'abcdefghi', 'A', 'a1', 'a b', ' a', 'a_b', 'a-b', '-', '*', 'a\n', '\n', 'Main', 'maiN', '1', '0',
    None, True, 0, ('a',), ['a'], (), [],
]
SPOTS = [('f', 0), ('main', 10 ** 59), ('abcdefgh', 7), ('f', 10 ** 70)]
NO_SPOTS = [
    ('f', True), ('f', False), ('f', -1), ('f',), ('f', 0, 0), ['f', 0], ('', 0), ('abcdefghi', 0), ('F', 0),
    (0, 'f'), ('f', '0'), ('f', None), 'f0', ('f', (0,)), (), None, 0, ('f', 'g'), (('f', 0),),
]
WAYS = [0, 1, 10 ** 59, BACK, ('fail', 'bad'), ('fail', 'fail'), ('fail', 'abcdefgh')]
NO_WAYS = [
    True, False, -1, None, 'back', 'fail', ('fail',), ('fail', ''), ('fail', 'abcdefghi'), ('fail', 0),
    ['back'], ['fail', 'bad'], ('back', 'bad'), ('back', 'back'), ('fail', 'bad', 'bad'), (), ('Back',), (0,),
    ('bad', 'fail'), (('back',),), ('fail', ('bad',)), ('fail', True),
]
LINES = [
    LINE, ((), (), ()), (('', ''), (0, 0), (('', 0), ('', 0))), (('z', 'a'), (BACK, BACK), ()),
    (('f',), (), (('bad', 10 ** 59),)),
]
NO_LINES = [
    (), ((), ()), ((), (), (), ()), [(), (), ()], ([], (), ()), ((), [], ()), ((), (), []), ('', (), ()),
    (('F',), (), ()), ((0,), (), ()), ((None,), (), ()), ((), (True,), ()), ((), (-1,), ()), ((), ('back',), ()),
    ((), (), ('bad',)), ((), (), (('bad', True),)), ((), (), (('bad', -1),)), ((), (), (('Bad', 0),)),
    ((), (), (('bad', 0, 0),)), ((), (), (['bad', 0],)), ((), (), (('bad',),)), ((), (), ((0, 'bad'),)),
    ((['f'],), (), ()), ((), (['back'],), ()), None, True, 'abc', ((('f',),), (), ()),
]
FUNCTIONS = [MAIN, F, G, ('f', (LINE,)), ('f', (((), (), ()), LINE)), ('abcdefgh', (((), (), ()),))]
NO_FUNCTIONS = [
    ('f', ()), ('f', [LINE]), ['f', (LINE,)], ('', (LINE,)), ('F', (LINE,)), ('f', LINE), ('f', (LINE,), ()),
    ('f',), ((LINE,), 'f'), (True, (LINE,)), ('f', (LINE, None)), ('f', (LINE, ((), ()))), (), None, 'f', 1,
    ('f', None), ('f', ((),)),
]
PROGRAMS = [PROGRAM, AGAIN, RING, (G, G), (('f', (((), (), ()),)),), (F,)]
NO_PROGRAMS = [
    (), [], list(PROGRAM), G, (G, ()), (G, None), (G, list(F)), ('f',), None, True, 0, 'program', (('f', ()),),
    nested(30), [G], (True,),
]
CHOICES = [(), (0,), (0, 1, 2), (10 ** 59,), tuple(range(5000))]
NO_CHOICES = [(True,), (False,), (-1,), (0, None), [0], [], 0, '', ('0',), ((0,),), None, (0, (1,)), (0, -1)]
COMMANDS = ['step', 'next', 'out', 'go']
NO_COMMANDS = ['', 'Step', 'steps', 'st', 'back', 'step ', ' go', 'nextout', 'step\n', None, True, 0, ('step',), ['go'], ()]

TABLE = {
    'is_integer': ([0, 1, -1, 10 ** 59, -10 ** 59, 2 ** 70], [True, False, None, '', '0', (0,), [0], (), []]),
    'is_number': ([0, 1, 10 ** 59, 2 ** 70], [-1, -10 ** 59, True, False, None, '', '0', (0,), [0], (), []]),
    'is_name': (NAMES, NO_NAMES),
    'is_spot': (SPOTS, NO_SPOTS),
    'is_way': (WAYS, NO_WAYS),
    'is_line': (LINES, NO_LINES),
    'is_function': (FUNCTIONS, NO_FUNCTIONS),
    'is_program': (PROGRAMS, NO_PROGRAMS),
    'is_choices': (CHOICES, NO_CHOICES),
    'is_command': (COMMANDS, NO_COMMANDS),
}


class KindsTest(Checks):

    def test_things_of_each_kind(self):
        for name, (good, bad) in TABLE.items():
            function = getattr(kinds, name)
            for thing in good:
                with self.subTest(name=name, thing=thing):
                    self.gives(True, function, thing)
                    self.gives(True, function, thing=thing)
            for thing in bad:
                with self.subTest(name=name, thing=thing):
                    self.gives(False, function, thing)
                    self.gives(False, function, thing=thing)

    def test_any_value_is_accepted(self):
        for name in TABLE:
            for thing in anything() + [object(), (object(),), ('f', object())]:
                result = getattr(kinds, name)(thing)
                self.assertTrue(result is True or result is False)

    def test_each_has_one_parameter(self):
        for name in TABLE:
            self.assertEqual(list(inspect.signature(getattr(kinds, name)).parameters), ['thing'])

    def test_form_alone(self):
        # Duplicates, wrong indexes and unknown names are for lets_program to find.
        self.assertTrue(kinds.is_program((('f', ((('zz', 'a', 'a'), (9, 9), (('x', 9), ('x', 9))),)), ('f', (LINE,)))))

    def test_deep_nesting(self):
        for depth in range(31):
            for inner in ((), [], 0, 'f', BACK):
                thing = nested(depth, inner)
                for name in TABLE:
                    self.assertIn(getattr(kinds, name)(thing), (True, False))


if __name__ == '__main__':
    unittest.main()
