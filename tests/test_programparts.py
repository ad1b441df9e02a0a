import unittest

from outandover.errors import NotUsable
from outandover.programparts import callers_of, can_call, line_at, lines_of, spots_of
from checks import Checks
from samples import AGAIN, F, FAULTS, G, MAIN, PROGRAM, RING, SAMPLES, STUCK, anything, random_program


class PartsTest(Checks):

    def test_spots_of(self):
        self.gives((('f', 0), ('f', 1), ('g', 0), ('main', 0), ('main', 1), ('main', 2)), spots_of, PROGRAM)
        self.gives((('again', 0), ('again', 1)), spots_of, program=AGAIN)
        many = (('f', ((('',), (('back',),), ()),) * 11),)
        self.gives(tuple([('f', index) for index in range(11)]), spots_of, many)

    def test_lines_of(self):
        self.gives(MAIN[1], lines_of, PROGRAM, 'main')
        self.gives(G[1], lines_of, program=PROGRAM, name='g')

    def test_line_at(self):
        self.gives(F[1][1], line_at, PROGRAM, ('f', 1))
        self.gives(MAIN[1][0], line_at, program=PROGRAM, spot=('main', 0))

    def test_callers_of(self):
        self.gives((('f', 1), ('main', 2)), callers_of, PROGRAM, 'g')
        self.gives((), callers_of, program=PROGRAM, name='main')
        self.gives((('a', 1), ('c', 0)), callers_of, RING, 'a')

    def test_can_call(self):
        self.gives(('f', 'g'), can_call, PROGRAM, 'main')
        self.gives((), can_call, program=PROGRAM, name='g')
        self.gives(('again',), can_call, AGAIN, 'again')
        for name in 'abc':
            self.gives(('a', 'b', 'c'), can_call, RING, name)
        self.gives(('lone',), can_call, RING, 'lone')

    def test_can_call_counts_lines_at_which_no_frame_can_arrive(self):
        unused = (('f', ((('',), (('back',),), ()), (('g',), (('back',),), ()))), G)
        self.gives(('g',), can_call, unused, 'f')
        # waits never comes behind its call of loops.
        self.gives(('loops', 'waits'), can_call, STUCK, 'begins')

    def test_wrong_names(self):
        for program in (PROGRAM, AGAIN, FAULTS):
            names = [name for name, _ in program]
            for thing in anything() + ['', 'mainn', 'mai', ['main'], ('main',)]:
                if thing not in names:
                    for function in (lines_of, callers_of, can_call):
                        self.raises(NotUsable, ('name', thing), function, program, thing)
                        self.raises(NotUsable, ('name', thing), function, program=program, name=thing)

    def test_wrong_spots(self):
        things = anything() + [('g', 1), ('f', 2), ('h', 0), ('f', True), ('g', False), ('main', 10 ** 59), ['f', 1]]
        for thing in things:
            if repr(thing) not in [repr(spot) for spot in spots_of(PROGRAM)]:
                self.raises(NotUsable, ('spot', thing), line_at, PROGRAM, thing)
                self.raises(NotUsable, ('spot', thing), line_at, program=PROGRAM, spot=thing)

    def test_the_error_has_the_very_object(self):
        thing = ['f', 0]
        with self.assertRaises(NotUsable) as caught:
            line_at(PROGRAM, thing)
        self.assertIs(caught.exception.at, thing)

    def test_parts_fit_together(self):
        for program in SAMPLES + tuple([random_program(seed) for seed in range(40)]):
            spots = spots_of(program)
            self.assertEqual(list(spots), sorted(set(spots)))
            for name, lines in program:
                self.assertEqual(lines_of(program, name), lines)
                self.assertEqual([line_at(program, (name, k)) for k in range(len(lines))], list(lines))
                callers = callers_of(program, name)
                self.assertEqual(callers, tuple([s for s in spots if name in line_at(program, s)[0]]))
                direct = {call for calls, _, _ in lines for call in calls if call != ''}
                further = {name for call in direct for name in can_call(program, call)}
                self.assertEqual(can_call(program, name), tuple(sorted(direct | further)))


if __name__ == '__main__':
    unittest.main()
