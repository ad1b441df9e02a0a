import unittest

from outandover.errors import InvalidPaper, NotUsable
from outandover.packedchecker import lets_packed
from outandover.packing import frames_behind
from outandover.programparts import spots_of
from outandover.reachchecker import lets_reach
from outandover.reaching import distance
from outandover.reachpapers import reach_paper
from outandover.tablechecker import lets_table
from outandover.tables import least_table
from checks import Checks
from oracle import Levels
from samples import AGAIN, BACK, DEEP, PROGRAM, RING, SAMPLES, STUCK, anything, chain, nested, random_program

START = (('main', 0),)
LIFE = ('life', 0)
FAILS = (('f', (0, 1)),)


def programs():
    return SAMPLES + (DEEP,) + tuple([random_program(seed) for seed in range(40)])


def fault_of_packed(program, thing):
    try:
        lets_packed(program, thing)
    except InvalidPaper as error:
        return (error.word, error.at)
    return None


def fault_of_table(program, thing):
    try:
        lets_table(program, thing)
    except InvalidPaper as error:
        return (error.word, error.at)
    return None


class PaperTest(Checks):

    def test_each_paper_is_accepted(self):
        for program in programs():
            for spot in spots_of(program):
                paper = reach_paper(program, spot)
                reached = distance(program, spot) is not None
                self.assertEqual(paper[0], 'run' if reached else 'never')
                self.assertEqual(len(paper), 2)
                self.gives(reached, lets_reach, program, spot, paper)

    def test_what_the_papers_tell_is_true(self):
        for program in programs():
            levels = Levels(program, ((program[0][0], 0),), most=60)
            for spot in spots_of(program):
                if reach_paper(program, spot)[0] == 'never':
                    self.assertIsNone(levels.least(lambda frames: frames[-1] == spot))

    def test_ordinary(self):
        self.gives(('run', (START, (), ())), reach_paper, PROGRAM, ('main', 0))
        self.gives('never', lambda: reach_paper(program=RING, spot=('lone', 0))[0])
        self.gives(6, lambda: lets_table(RING, reach_paper(RING, ('lone', 0))[1]))

    def test_more_than_can_be_written(self):
        program = chain('abcdefgh', 12)
        paper = reach_paper(program, ('a', 11))
        self.gives(True, lets_reach, program, ('a', 11), paper)
        self.gives((('a', 11),), frames_behind, program, paper[1])

    def test_wrong_spots(self):
        paper = ('run', (START, (), ()))
        for thing in anything() + [('g', 1), ('g', False), ('h', 0), ['f', 0], ('main', 3)]:
            if repr(thing) not in [repr(spot) for spot in spots_of(PROGRAM)]:
                self.raises(NotUsable, ('spot', thing), reach_paper, PROGRAM, thing)
                self.raises(NotUsable, ('spot', thing), reach_paper, program=PROGRAM, spot=thing)
                self.raises(NotUsable, ('spot', thing), lets_reach, PROGRAM, thing, paper)
                self.raises(NotUsable, ('spot', thing), lets_reach, program=PROGRAM, spot=thing, thing=None)


class RunTest(Checks):

    def test_of_the_document(self):
        self.gives(True, lets_reach, PROGRAM, ('main', 2), ('run', (START, FAILS, (0, LIFE))))

    def test_any_run_that_stands_there(self):
        self.gives(True, lets_reach, program=PROGRAM, spot=('main', 2), thing=('run', (START, (), (0, 0, 1))))
        self.gives(True, lets_reach, PROGRAM, ('main', 0), ('run', (START, (), ())))
        # Longer ones than needed, also with lives that are not used.
        self.gives(True, lets_reach, PROGRAM, ('main', 0),
                   ('run', (START, (('g', (0, 0)),), (0, 0, 0, 0, 0, 0, 0, 1))))
        self.gives(True, lets_reach, AGAIN, ('again', 0), ('run', ((('again', 0),), (), (1, 1, 1))))

    def test_shape(self):
        for thing in anything() + [('run',), ('run', (START, (), ()), 0), ['run', (START, (), ())], ('Run', ()),
                                   ('safe', least_table(PROGRAM)), ('', ()), (('run',), (START, (), ())),
                                   ((START, (), ()), 'run'), nested(29, ('run', 0))]:
            self.raises(InvalidPaper, ('shape', -1), lets_reach, PROGRAM, ('f', 0), thing)
            self.raises(InvalidPaper, ('shape', -1), lets_reach, program=PROGRAM, spot=('f', 0), thing=thing)

    def test_the_errors_of_lets_packed(self):
        things = anything() + [(START, FAILS, (0, 0, 0, LIFE)), ((('main', 3),), (), ()), (START, (('g', (0,)),), ()),
                               (START, (('h', (0,)),), ()), (START, (), (1,)), (START, (), (True,))]
        for thing in things:
            fields = fault_of_packed(PROGRAM, thing)
            self.assertIsNotNone(fields)
            self.raises(InvalidPaper, fields, lets_reach, PROGRAM, ('f', 0), ('run', thing))

    def test_frames(self):
        for packed in (((('main', 1),), (), ()), ((('f', 0),), (), ()), ((('main', 0), ('f', 0)), (), ()),
                       ((('f', 0), ('f', 0)), (), ())):
            fault = fault_of_packed(PROGRAM, packed) or ('frames', -1)
            self.raises(InvalidPaper, fault, lets_reach, PROGRAM, ('f', 0), ('run', packed))
        self.raises(InvalidPaper, ('frames', -1), lets_reach, PROGRAM, ('main', 1), ('run', ((('main', 1),), (), ())))
        # Items that cannot stand there come first, a spot at which it does not stand comes last.
        self.raises(InvalidPaper, ('item', (-1, 0)), lets_reach, PROGRAM, ('f', 0), ('run', ((('main', 1),), (), (9,))))
        self.raises(InvalidPaper, ('frames', -1), lets_reach, PROGRAM, ('f', 0), ('run', ((('main', 1),), (), (0,))))

    def test_spot(self):
        packed = (START, FAILS, (0, LIFE))
        for spot in spots_of(PROGRAM):
            if spot != ('main', 2):
                self.raises(InvalidPaper, ('spot', -1), lets_reach, PROGRAM, spot, ('run', packed))
        # Something is chosen behind, the call has ended, or the run is over.
        self.raises(InvalidPaper, ('spot', -1), lets_reach, PROGRAM, ('main', 2), ('run', (START, (), (0, 0, 1, 0))))
        self.raises(InvalidPaper, ('spot', -1), lets_reach, PROGRAM, ('main', 0),
                    ('run', (START, (('f', (0, 0, 0, 0)),), (0, LIFE))))
        self.raises(InvalidPaper, ('spot', -1), lets_reach, PROGRAM, ('main', 2), ('run', (START, (), (0, 0, 1, 0, 0))))


class NeverTest(Checks):

    def test_any_closed_table(self):
        ring = (('a', ((('b',), (BACK,), ()), (('',), (BACK,), ()))), ('b', ((('a',), (BACK,), ()),)))
        self.gives(False, lets_reach, ring, ('a', 1), ('never', least_table(ring)))
        more = (('a', (0,), (BACK,), (('a', 0), ('b', 0), ('zz', 0))), ('b', (0,), (BACK,), (('a', 0), ('b', 0), ('zz', 0))))
        self.gives(False, lets_reach, program=ring, spot=('a', 1), thing=('never', more))
        self.gives(False, lets_reach, STUCK, ('waits', 1), ('never', least_table(STUCK)))

    def test_the_errors_of_lets_table(self):
        table = least_table(PROGRAM)
        things = anything() + [table[:2], table[::-1], ((('f', (1,), (), ()),) + table[1:]), list(table),
                               (('f', (0,), (), (('f', 0),)),) + table[1:], table[:2] + (table[2][:2] + ((),) + table[2][3:],)]
        for thing in things:
            fields = fault_of_table(PROGRAM, thing)
            self.assertIsNotNone(fields)
            self.raises(InvalidPaper, fields, lets_reach, PROGRAM, ('f', 0), ('never', thing))

    def test_cut_tables_are_not_closed_without_cuts(self):
        cut = least_table(PROGRAM, cut=(('main', 0),))
        self.raises(InvalidPaper, ('inside', ('main', 0)), lets_reach, PROGRAM, ('main', 2), ('never', cut))

    def test_spot(self):
        for spot in spots_of(PROGRAM):
            self.raises(InvalidPaper, ('spot', -1), lets_reach, PROGRAM, spot, ('never', least_table(PROGRAM)))
        # A closed table may touch more than can be arrived at; then it does not show it.
        ring = (('a', ((('b',), (BACK,), ()), (('',), (BACK,), ()))), ('b', ((('a',), (BACK,), ()),)))
        both = (('a', 0), ('a', 1), ('b', 0))
        more = (('a', (0,), (), both), ('b', (0,), (), both))
        self.raises(InvalidPaper, ('spot', -1), lets_reach, ring, ('a', 1), ('never', more))
        # What other functions touch does not count.
        alone = (('lone', (0,), (BACK,), (('lone', 0),)),)
        self.assertEqual(least_table(RING)[3:], alone)
        self.gives(False, lets_reach, RING, ('lone', 0), ('never', least_table(RING)))


if __name__ == '__main__':
    unittest.main()
