import unittest

from outandover.errors import InvalidPaper, NotUsable
from outandover.programchanges import renamed, with_function, with_line, without_function
from outandover.programchecker import lets_program
from outandover.programparts import callers_of, can_call, line_at, lines_of, spots_of
from checks import Checks
from samples import AGAIN, BACK, F, G, MAIN, PROGRAM, RING, SAMPLES, anything, random_program

LINE = (('', 'g'), (0, BACK), (('x', 1),))
H = ('h', ((('f', 'h'), (BACK,), ()),))


class WithLineTest(Checks):

    def test_the_line_is_put_there(self):
        self.gives((MAIN, ('f', (F[1][0], LINE)), G), with_line, PROGRAM, ('f', 1), LINE)
        self.gives((('again', (AGAIN[0][1][1], AGAIN[0][1][1])),), with_line,
                   program=AGAIN, spot=('again', 0), line=AGAIN[0][1][1])

    def test_wrong_spots(self):
        for thing in anything() + [('g', 1), ('g', False), ('h', 0)]:
            if repr(thing) not in [repr(spot) for spot in spots_of(PROGRAM)]:
                self.raises(NotUsable, ('spot', thing), with_line, PROGRAM, thing, LINE)

    def test_wrong_lines(self):
        for line in anything():
            self.raises(InvalidPaper, ('shape', -1), with_line, PROGRAM, ('f', 1), line)
        self.raises(InvalidPaper, ('ways', ('again', 1)), with_line, AGAIN, ('again', 1), (('',), (2,), ()))
        self.raises(InvalidPaper, ('calls', ('f', 0)), with_line, PROGRAM, ('f', 0), (('h',), (2,), (('', 7),)))
        self.raises(InvalidPaper, ('handlers', ('f', 0)), with_line, PROGRAM, ('f', 0), (('',), (1,), (('', 7),)))

    def test_the_spot_is_told_before_the_line(self):
        self.raises(NotUsable, ('spot', ('g', 1)), with_line, PROGRAM, ('g', 1), None)
        self.raises(NotUsable, ('spot', None), with_line, PROGRAM, None, ())


class WithFunctionTest(Checks):

    def test_the_function_stands_last(self):
        self.gives(PROGRAM + (H,), with_function, PROGRAM, 'h', H[1])
        self.gives(AGAIN + (G,), with_function, program=AGAIN, name='g', lines=G[1])
        self.gives((G, ('a', G[1])), with_function, (G,), 'a', G[1])

    def test_names_that_exist(self):
        for name in ('main', 'f', 'g'):
            self.raises(NotUsable, ('name', name), with_function, PROGRAM, name, H[1])
            self.raises(NotUsable, ('name', name), with_function, PROGRAM, name, None)

    def test_wrong_names_and_lines(self):
        for thing in anything():
            if thing not in ('main', 'f', 'again', 'step'):
                self.raises(InvalidPaper, ('shape', -1), with_function, PROGRAM, thing, G[1])
        for thing in (None, True, (), [], list(H[1]), (None,), 'h', H, ((),)):
            self.raises(InvalidPaper, ('shape', -1), with_function, PROGRAM, 'h', thing)

    def test_faults_of_the_lines(self):
        self.raises(InvalidPaper, ('calls', ('h', 0)), with_function, PROGRAM, 'h', ((('i',), (BACK,), ()),))
        self.raises(InvalidPaper, ('ways', ('h', 0)), with_function, PROGRAM, 'h', ((('h',), (1,), ()),))
        self.raises(InvalidPaper, ('handlers', ('h', 0)), with_function, PROGRAM, 'h',
                    ((('',), (0,), (('x', 0), ('x', 0))),))


class WithoutFunctionTest(Checks):

    def test_calls_are_left_out(self):
        changed = (MAIN[:1] + ((MAIN[1][0], MAIN[1][1], (('',), (BACK,), ())),),
                   ('f', (F[1][0], (('',), (BACK,), ()))))
        self.gives(changed, without_function, PROGRAM, 'g')
        self.gives(changed, without_function, program=PROGRAM, name='g')

    def test_calls_that_become_empty(self):
        found = without_function(PROGRAM, 'f')
        self.gives((('',), (1,), (('', 2),)), line_at, found, ('main', 0))
        self.gives((MAIN[0], G[0]), lambda: tuple([name for name, _ in found]))

    def test_calls_of_two_become_one(self):
        two = (('a', ((('b', 'c'), (BACK,), ()),)), ('b', G[1]), ('c', ((('c',), (BACK,), ()),)))
        self.gives((('a', ((('b',), (BACK,), ()),)), ('b', G[1])), without_function, two, 'c')

    def test_wrong_names(self):
        for thing in anything() + ['', 'h']:
            if thing not in ('f', 'g'):
                self.raises(NotUsable, ('name', thing), without_function, PROGRAM, thing)

    def test_the_first_function_stays(self):
        self.raises(NotUsable, ('name', 'main'), without_function, PROGRAM, 'main')
        self.raises(NotUsable, ('name', 'again'), without_function, AGAIN, 'again')


class RenamedTest(Checks):

    def test_no_pairs(self):
        for program in SAMPLES:
            self.gives(program, renamed, program)

    def test_calls_are_ascending_again(self):
        self.gives((('', 'b'), (1,), ()), lambda: renamed(AGAIN, ('again', 'b'))[0][1][0])
        two = (('a', ((('', 'b', 'c'), (BACK,), ()),)), ('b', G[1]), ('c', G[1]))
        self.gives((('a', ((('', 'c', 'd'), (BACK,), ()),)), ('d', G[1]), ('c', G[1])), renamed, two, ('b', 'd'))

    def test_names_exchanged(self):
        found = renamed(PROGRAM, ('f', 'g'), ('g', 'f'))
        self.gives(('main', 'g', 'f'), lambda: tuple([name for name, _ in found]))
        self.gives(((('g',), (1,), (('', 2),)), F[1][0], (('', 'f'), (BACK,), ()), G[1][0]),
                   lambda: (found[0][1][0],) + found[1][1] + found[2][1])
        self.gives(PROGRAM, renamed, found, ('g', 'f'), ('f', 'g'))

    def test_names_sent_round(self):
        found = renamed(PROGRAM, ('main', 'f'), ('f', 'g'), ('g', 'main'))
        self.gives(('f', 'g', 'main'), lambda: tuple([name for name, _ in found]))
        self.gives(PROGRAM, renamed, found, ('f', 'main'), ('g', 'f'), ('main', 'g'))

    def test_the_same_name_again(self):
        self.gives(PROGRAM, renamed, PROGRAM, ('f', 'f'))
        self.gives(PROGRAM, renamed, PROGRAM, ('f', 'f'), ('main', 'main'))

    def test_old_names(self):
        self.raises(NotUsable, ('name', 'h'), renamed, PROGRAM, ('h', 'i'))
        self.raises(NotUsable, ('name', 'f'), renamed, PROGRAM, ('f', 'a'), ('f', 'b'))
        self.raises(NotUsable, ('name', 'f'), renamed, PROGRAM, ('f', 'a'), ('f', 'a'))
        # A new name is no old one.
        self.raises(NotUsable, ('name', 'a'), renamed, PROGRAM, ('f', 'a'), ('a', 'b'))
        self.raises(NotUsable, ('name', 'h'), renamed, PROGRAM, ('f', 'a'), ('h', 'b'), ('f', 'c'))
        self.raises(NotUsable, ('name', 'f'), renamed, PROGRAM, ('f', 'a'), ('f', 'b'), ('h', 'c'))

    def test_new_names(self):
        self.raises(NotUsable, ('name', 'g'), renamed, PROGRAM, ('f', 'g'))
        self.raises(NotUsable, ('name', 'f'), renamed, PROGRAM, ('main', 'f'))
        self.raises(NotUsable, ('name', 'a'), renamed, PROGRAM, ('f', 'a'), ('main', 'a'))
        # The first function of the result counts, not the first pair.
        self.raises(NotUsable, ('name', 'p'), renamed, RING, ('lone', 'q'), ('c', 'q'), ('b', 'p'), ('a', 'p'))
        # Old names are told before new ones.
        self.raises(NotUsable, ('name', 'h'), renamed, PROGRAM, ('f', 'g'), ('h', 'i'))


class ConsequencesTest(Checks):

    def test_a_line_put_back(self):
        for program in SAMPLES:
            for spot in spots_of(program):
                changed = with_line(program, spot, (('',), (BACK,), ()))
                self.gives(program, with_line, changed, spot, line_at(program, spot))

    def test_a_function_added_and_taken_out(self):
        for program in SAMPLES:
            for lines in (G[1], ((('', 'new'), (BACK, 0), (('x', 0),)),)):
                changed = with_function(program, 'new', lines)
                self.gives(lines, lines_of, changed, 'new')
                self.gives(program, without_function, changed, 'new')

    def test_renamed_programs(self):
        programs = list(SAMPLES) + [random_program(seed) for seed in range(30)]
        for program in programs:
            names = [name for name, _ in program]
            news = dict(zip(names, names[1:] + ['fresh']))
            found = renamed(program, *news.items())
            self.assertEqual(lets_program(found), lets_program(program))
            for name in names:
                spots = tuple(sorted([(news[own], k) for own, k in callers_of(program, name)]))
                self.gives(spots, callers_of, found, news[name])
                self.gives(tuple(sorted([news[own] for own in can_call(program, name)])), can_call, found, news[name])
            self.gives(program, renamed, found, *[(new, old) for old, new in news.items()])

    def test_changed_programs_are_programs(self):
        for seed in range(30):
            program = random_program(seed)
            for name, _ in program[1:]:
                self.assertLess(lets_program(without_function(program, name)), lets_program(program))


if __name__ == '__main__':
    unittest.main()
