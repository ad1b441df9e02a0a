import unittest

from outandover.choosing import arrivals_of, frames_after, is_behind
from outandover.errors import NotUsable
from outandover.packedchecker import lets_packed
from outandover.packing import arrivals_in, end_behind, frames_behind, written_out
from outandover.programchanges import renamed
from outandover.programparts import spots_of
from outandover.reaching import distance, nearest, nearest_end
from outandover.tables import least_table
from checks import Checks
from oracle import Levels, all_runs, machine_behind, written
from samples import (
    AGAIN, BACK, DEEP, F, FAULTS, G, PROGRAM, RING, SAMPLES, STUCK, TWICE, anything, chain, further, random_program,
)

BAD = ('fail', 'bad')


def programs():
    return SAMPLES + (DEEP,) + tuple([random_program(seed) for seed in range(40)])


def ends_of(program):
    """All ends that stand among the ways of a program, and one more."""
    found = {BACK, ('fail', 'zzz')}
    for _, lines in program:
        for _, ways, _ in lines:
            found |= {way for way in ways if isinstance(way, tuple)}
    return sorted(found)


class NearestTest(Checks):

    def test_ordinary(self):
        self.gives(((('main', 0),), (), ()), nearest, PROGRAM, ('main', 0))
        self.gives(0, distance, PROGRAM, ('main', 0))
        self.gives(1, distance, PROGRAM, ('f', 0))
        self.gives(2, distance, program=PROGRAM, spot=('f', 1))
        self.gives(3, distance, PROGRAM, ('g', 0))
        self.gives(3, distance, PROGRAM, ('main', 1))
        self.gives(2, distance, PROGRAM, ('main', 2))
        self.gives((0, 0, 1), written_out, PROGRAM, nearest(program=PROGRAM, spot=('main', 2)))
        self.gives(4, lambda: len(written_out(PROGRAM, nearest(PROGRAM, ('g', 0)))))

    def test_no_run_arrives_there(self):
        self.gives(None, nearest, RING, ('lone', 0))
        self.gives(None, distance, RING, ('lone', 0))
        self.gives(None, nearest, STUCK, ('waits', 1))
        self.gives(None, distance, STUCK, ('waits', 1))
        self.gives(None, distance, (F, G, MAIN_ALONE), ('main', 0))
        self.gives(None, nearest, DEEP, ('d', 1))

    def test_the_first_spot(self):
        for program in programs():
            spot = (program[0][0], 0)
            self.gives(((spot,), (), ()), nearest, program, spot)
            self.gives(0, distance, program, spot)

    def test_against_all_runs_of_each_length(self):
        tried = 0
        for program in programs()[:40]:
            least = {}
            for count in range(8):
                for run in all_runs(program, count):
                    machine = machine_behind(program, run)
                    if machine.stack and not machine.behind:
                        spot, many = machine.frames()[-1], len(machine.arrivals) - 1
                        least[spot] = min(many, least.get(spot, many))
            for spot in spots_of(program):
                # Between two arrivals of a run there can be many choices, so longer runs may have fewer arrivals.
                found = distance(program, spot)
                if spot in least:
                    self.assertTrue(found is not None and found <= least[spot])
                    tried += found == least[spot]
        self.assertGreater(tried, 100)

    def test_against_the_oracle(self):
        for program in programs():
            first = ((program[0][0], 0),)
            levels = Levels(program, first, most=200)
            for spot in spots_of(program):
                found = distance(program, spot)
                least = levels.least(lambda frames: frames[-1] == spot)
                if least is None:
                    self.assertTrue(found is None or not levels.is_all and found >= len(levels.levels) - 1)
                else:
                    self.assertEqual(found, least)
                self.assert_stands(program, first, nearest(program, spot), spot, found)

    def assert_stands(self, program, first, packed, spot, many):
        if many is None:
            self.assertIsNone(packed)
            return
        self.gives(many, lets_packed, program, packed)
        self.assertEqual(packed[0], first)
        self.assertEqual(frames_behind(program, packed)[-1], spot)
        if many < 40:
            run = written(packed)
            self.assertEqual(frames_after(program, run)[-1], spot)
            self.assertFalse(is_behind(program, run))
            self.assertEqual(len(arrivals_of(program, run)) - 1, many)

    def test_touched_by_the_table(self):
        for program in programs():
            touched = {row[0]: row[3] for row in least_table(program)}[program[0][0]]
            for spot in spots_of(program):
                self.assertEqual(distance(program, spot) is not None, spot in touched)

    def test_more_than_can_be_written(self):
        for many in (5, 12):
            program = chain('abcdefgh', many)
            # The last line of a comes behind whole calls of b from all lines before.
            far = (many - 1) * (1 + arrivals_in_life(7, many)) + many - 1
            self.gives(far, distance, program, ('a', many - 1))
            packed = nearest(program, ('a', many - 1))
            self.gives(far, lets_packed, program, packed)
            self.gives((('a', many - 1),), frames_behind, program, packed)
            self.gives(many - 1, arrivals_in, program, packed, at=('b', many - 1))
        self.assertGreater(far, 12 ** 7)

    def test_wrong_spots(self):
        for thing in anything() + [('g', 1), ('g', False), ('h', 0), ['f', 0], ('main', 3)]:
            if repr(thing) not in [repr(spot) for spot in spots_of(PROGRAM)]:
                for function in (nearest, distance):
                    self.raises(NotUsable, ('spot', thing), function, PROGRAM, thing)
                    self.raises(NotUsable, ('spot', thing), function, program=PROGRAM, spot=thing)


def arrivals_in_life(levels, many):
    """The arrivals of a frame behind its first one, of a chain of so many functions."""
    inner = many - 1
    for _ in range(levels - 1):
        inner = many * (inner + 1) + many - 1
    return inner


MAIN_ALONE = ('main', ((('',), (BACK,), ()),))


class NearestEndTest(Checks):

    def test_ordinary(self):
        self.gives(((('g', 0),), (), (0, 0)), nearest_end, PROGRAM, 'g', BACK)
        self.gives((0, 1), written_out, PROGRAM, nearest_end(PROGRAM, 'f', BAD))
        self.gives((0, 0, 0, 0), written_out, PROGRAM, nearest_end(program=PROGRAM, name='f', end=BACK))
        self.gives((0, 0, 1, 0, 0), written_out, PROGRAM, nearest_end(PROGRAM, 'main', BACK))
        self.gives(2, arrivals_in, PROGRAM, nearest_end(PROGRAM, 'main', BACK))

    def test_no_frame_ends_so(self):
        self.gives(None, nearest_end, PROGRAM, 'main', BAD)
        self.gives(None, nearest_end, PROGRAM, 'g', BAD)
        self.gives(None, nearest_end, STUCK, 'loops', BACK)
        self.gives(None, nearest_end, STUCK, 'begins', BACK)
        self.gives(None, nearest_end, RING, 'c', ('fail', 'y'))
        ring = (('a', ((('b',), (BACK,), ()),)), ('b', ((('a',), (BACK, ('fail', 'x')), ()),)))
        self.gives(None, nearest_end, ring, 'a', BACK)
        self.gives(None, nearest_end, ring, 'b', ('fail', 'x'))

    def test_faults_that_leave_several_frames(self):
        packed = nearest_end(FAULTS, 'top', ('fail', 'red'))
        self.assertIsNotNone(packed)
        self.gives(('fail', 'red'), end_behind, FAULTS, packed)
        self.gives(('fail', 'blue'), end_behind, FAULTS, nearest_end(FAULTS, 'mid', ('fail', 'blue')))
        self.gives(None, nearest_end, FAULTS, 'mid', ('fail', 'green'))
        self.gives(None, nearest_end, FAULTS, 'top', ('fail', 'blue'))
        # d fails with x, so that a is at its line 1; then b and d again, and no handler.
        self.gives(5, arrivals_in, DEEP, nearest_end(DEEP, 'a', ('fail', 'z')))
        # b handles its first y, and fails with the second one.
        self.gives(7, arrivals_in, DEEP, nearest_end(DEEP, 'a', ('fail', 'y')))

    def test_any_end(self):
        for thing in anything() + [('fail', True), ('fail', 0), ['back'], ('back', 'back'), 'back', {}, nested_end()]:
            if repr(thing) not in (repr(BACK), repr(BAD)):
                self.gives(None, nearest_end, PROGRAM, 'f', thing)

    def test_wrong_names(self):
        for thing in anything() + ['h', '', 'mainx', ('main',), True, ['f']]:
            if not isinstance(thing, str) or thing not in ('main', 'f', 'g'):
                self.raises(NotUsable, ('name', thing), nearest_end, PROGRAM, thing, BACK)
                self.raises(NotUsable, ('name', thing), nearest_end, program=PROGRAM, name=thing, end=None)

    def test_against_the_oracle(self):
        met = 0
        for program in programs():
            for name, _ in program:
                levels = Levels(program, ((name, 0),), most=100)
                for end in ends_of(program):
                    found = nearest_end(program, name, end)
                    least = levels.least_end(end)
                    if least is None:
                        many = None if found is None else arrivals_in(program, found)
                        self.assertTrue(found is None or not levels.is_all and many >= len(levels.ends))
                    else:
                        met += 1
                        self.gives(least, lets_packed, program, found)
                    if found is not None:
                        self.assertEqual(found[0], ((name, 0),))
                        self.gives(end, end_behind, program, found)
                        self.gives((), frames_behind, program, found)
        self.assertGreater(met, 90)

    def test_told_by_the_table(self):
        for program in programs():
            for name, _, ends, _ in least_table(program):
                for end in ends_of(program):
                    self.assertEqual(nearest_end(program, name, end) is not None, end in ends)

    def test_more_than_can_be_written(self):
        long = chain('abcdefgh', 12)
        packed = nearest_end(long, 'a', BACK)
        self.gives(arrivals_in_life(8, 12), lets_packed, long, packed)
        self.gives(BACK, end_behind, long, packed)


def nested_end():
    return ('fail', ('fail', 'bad'))


class ConsequencesTest(Checks):

    def test_further_calls_ways_lines_and_functions_make_no_spot_more_distant(self):
        for program in programs()[:30]:
            for other in further(program):
                for spot in spots_of(program):
                    before = distance(program, spot)
                    if before is not None:
                        self.assertLessEqual(distance(other, spot), before)

    def test_renamed(self):
        for program in programs()[:30]:
            names = [name for name, _ in program]
            news = dict(zip(names, names[1:] + ['aaa']))
            other = renamed(program, *news.items())
            for name, index in spots_of(program):
                self.assertEqual(distance(other, (news[name], index)), distance(program, (name, index)))

    def test_a_spot_of_the_first_function_that_calls_itself(self):
        self.gives(1, distance, TWICE, ('twice', 1))
        self.gives(1, distance, AGAIN, ('again', 1))


if __name__ == '__main__':
    unittest.main()
