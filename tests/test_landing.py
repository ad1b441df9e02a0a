import unittest
from random import Random

from outandover.errors import NotUsable
from outandover.landing import halts_of, may_end, on_the_way
from outandover.programparts import spots_of
from checks import Checks
from oracle import Halts
from samples import (
    AGAIN, BACK, DEEP, FAULTS, PROGRAM, RING, SAMPLES, STUCK, TWICE, anything, cuts_of, random_frames, random_program,
)

COMMANDS = ('step', 'next', 'out')
IN_F = (('main', 0), ('f', 0))
FUNCTIONS = (halts_of, on_the_way, may_end)


def cases():
    """A program, frames, a command and breakpoints, by chance."""
    programs = SAMPLES + (DEEP,) + tuple([random_program(seed) for seed in range(60)])
    for seed in range(600):
        chance = Random(seed)
        program = programs[seed % len(programs)]
        yield program, random_frames(program, chance, 4), chance.choice(COMMANDS), chance.choice(
            cuts_of(program) + [()])


class DocumentTest(Checks):

    def test_of_the_document(self):
        self.gives(((('f', 1), 1), (('main', 2), 0)), halts_of, PROGRAM, IN_F, 'next')
        self.gives(((('g', 0), -1), (('main', 1), 0), (('main', 2), 0)), halts_of, PROGRAM, IN_F, 'out',
                   breaks=(('g', 0),))
        self.gives(((1,), (('g', 0),)), on_the_way, PROGRAM, IN_F, 'out')
        self.gives(False, may_end, PROGRAM, IN_F, 'out')

    def test_by_name(self):
        self.gives(((('main', 1), 0), (('main', 2), 0)), halts_of, program=PROGRAM, frames=IN_F, command='out', breaks=())
        self.gives(((), ()), on_the_way, program=PROGRAM, frames=IN_F, command='step', breaks=(('f', 0),))
        self.gives(True, may_end, program=PROGRAM, frames=(('main', 2),), command='next', breaks=())

    def test_breaks_stand_behind_a_star(self):
        for function in FUNCTIONS:
            with self.assertRaises(TypeError):
                function(PROGRAM, IN_F, 'out', ())


class CommandsTest(Checks):

    def test_step(self):
        self.gives(((('f', 0), 1),), halts_of, PROGRAM, (('main', 0),), 'step')
        self.gives(((('g', 0), 1), ), halts_of, PROGRAM, (('main', 2),), 'step')
        self.gives(True, may_end, PROGRAM, (('main', 2),), 'step')
        self.gives(((('f', 1), 1), (('main', 2), 0)), halts_of, PROGRAM, IN_F, 'step')
        # Through the ends of several frames to the next arrival.
        self.gives(((('main', 1), 0),), halts_of, PROGRAM, (('main', 0), ('f', 1), ('g', 0)), 'step')
        self.gives(((), ()), on_the_way, PROGRAM, (('main', 0), ('f', 1), ('g', 0)), 'step')
        self.gives(((('again', 0), 1), (('again', 1), 0)), halts_of, AGAIN, (('again', 0),), 'step')

    def test_next(self):
        self.gives(((('main', 1), 0), (('main', 2), 0)), halts_of, PROGRAM, (('main', 0),), 'next')
        self.gives(((), (('f', 0), ('f', 1), ('g', 0))), on_the_way, PROGRAM, (('main', 0),), 'next')
        self.gives(((('again', 1), 0),), halts_of, AGAIN, (('again', 0),), 'next')
        self.gives(((), (('again', 0), ('again', 1))), on_the_way, AGAIN, (('again', 0),), 'next')

    def test_out(self):
        # In the lowest of the frames "out" never lands.
        self.gives((), halts_of, PROGRAM, (('main', 0),), 'out')
        self.gives(((0, 1, 2), (('f', 0), ('f', 1), ('g', 0))), on_the_way, PROGRAM, (('main', 0),), 'out')
        self.gives(True, may_end, PROGRAM, (('main', 0),), 'out')
        self.gives(((1,), (('g', 0),)), on_the_way, PROGRAM, (('f', 0),), 'out')

    def test_frames_that_are_never_left(self):
        frames = (('begins', 0), ('loops', 0))
        self.gives(((('loops', 0), 1),), halts_of, STUCK, frames, 'step')
        self.gives(((('loops', 0), 1),), halts_of, STUCK, frames, 'next')
        self.gives((), halts_of, STUCK, frames, 'out')
        self.gives(((0,), ()), on_the_way, STUCK, frames, 'out')
        self.gives(False, may_end, STUCK, frames, 'out')
        self.gives((), halts_of, STUCK, (('begins', 1), ('waits', 0)), 'out')
        self.gives(((), (('loops', 0),)), on_the_way, STUCK, (('begins', 1), ('waits', 0)), 'out')
        self.gives((), halts_of, STUCK, (('begins', 1),), 'next')
        self.gives(False, may_end, STUCK, (('begins', 1),), 'next')

    def test_handlers_of_frames_below(self):
        # low fails with blue, green or red: green is handled by mid, all by top.
        frames = (('top', 0), ('mid', 0), ('low', 0))
        self.gives(((('mid', 1), 1), (('top', 1), 0), (('top', 2), 0), (('top', 4), 0)), halts_of, FAULTS, frames, 'out')
        frames = (('top', 4), ('mid', 0), ('mid', 0), ('low', 0))
        self.gives(((('mid', 1), 2), (('top', 3), 0)), halts_of, FAULTS, frames, 'next')
        self.gives(True, may_end, FAULTS, frames, 'next')

    def test_the_same_function_twice(self):
        frames = (('twice', 1), ('twice', 0))
        self.gives(((('twice', 1), 1),), halts_of, TWICE, frames, 'next')
        frames = (('twice', 0), ('twice', 0), ('twice', 1))
        self.gives(((('twice', 1), 1),), halts_of, TWICE, frames, 'next')
        frames = (('twice', 0), ('twice', 1), ('twice', 1))
        self.gives(((('twice', 1), 0),), halts_of, TWICE, frames, 'out')
        # A fault leaves two frames of one function, the upper one without a handler.
        frames = (('top', 4), ('mid', 1), ('mid', 0), ('low', 0))
        self.raises(NotUsable, ('frames', 2), halts_of, FAULTS, frames, 'out')
        frames = (('top', 4), ('mid', 0), ('mid', 0), ('low', 0))
        self.gives(((('mid', 1), 2), (('top', 3), 0)), halts_of, FAULTS, frames, 'out')

    def test_six_frames(self):
        frames = (('again', 0),) * 6
        self.gives(((('again', 1), 5),), halts_of, AGAIN, frames, 'next')
        self.gives(((('again', 1), 4),), halts_of, AGAIN, frames, 'out')
        self.gives(((('again', 0), 6), (('again', 1), 5)), halts_of, AGAIN, frames, 'step')
        self.gives(((1,), (('again', 0), ('again', 1))), on_the_way, AGAIN, frames, 'out')


class BreaksTest(Checks):

    def test_at_the_spot_where_it_is_given(self):
        # The arrival at which the command is given does not count, a later one does.
        self.gives(((('main', 0), -1),), halts_of, PROGRAM, (('main', 1),), 'out', breaks=(('main', 0), ('main', 1)))
        self.gives(((('again', 0), -1), (('again', 1), 0)), halts_of, AGAIN, (('again', 0),), 'next',
                   breaks=(('again', 0),))
        self.gives(((), ()), on_the_way, AGAIN, (('again', 0),), 'next', breaks=(('again', 0),))

    def test_where_it_lands(self):
        self.gives(((('main', 1), -1), (('main', 2), 0)), halts_of, PROGRAM, (('main', 0),), 'next',
                   breaks=(('main', 1),))
        self.gives(((('f', 0), -1),), halts_of, PROGRAM, (('main', 0),), 'step', breaks=(('f', 0),))

    def test_on_the_way(self):
        self.gives(((('f', 1), -1), (('main', 2), 0)), halts_of, PROGRAM, (('main', 0),), 'next', breaks=(('f', 1),))
        self.gives(((), (('f', 0),)), on_the_way, PROGRAM, (('main', 0),), 'next', breaks=(('f', 1),))
        self.gives(((('f', 1), -1), (('main', 2), 0)), halts_of, PROGRAM, IN_F, 'out', breaks=(('f', 1),))
        self.gives(((), ()), on_the_way, PROGRAM, IN_F, 'out', breaks=(('f', 1),))

    def test_one_pair_for_a_breakpoint_at_several_depths(self):
        frames = (('again', 0), ('again', 0))
        self.gives(((('again', 1), -1),), halts_of, AGAIN, frames, 'out', breaks=(('again', 1),))
        self.gives(((('again', 0), -1), (('again', 1), 0)), halts_of, AGAIN, frames, 'out', breaks=(('again', 0),))
        self.gives(((1,), ()), on_the_way, AGAIN, frames, 'out', breaks=(('again', 0),))

    def test_spots_that_the_program_does_not_have(self):
        for program, frames, command, _ in list(cases())[:80]:
            for function in FUNCTIONS:
                self.gives(function(program, frames, command), function, program, frames, command,
                           breaks=(('main', 99), ('zz', 0)))

    def test_they_keep_from_ending(self):
        self.gives(True, may_end, PROGRAM, (('main', 0),), 'out', breaks=(('f', 1),))
        self.gives(False, may_end, PROGRAM, (('main', 0),), 'out', breaks=(('f', 0),))
        self.gives(False, may_end, PROGRAM, (('main', 0),), 'out', breaks=(('main', 1), ('main', 2)))


class OracleTest(Checks):

    def test_against_all_rests(self):
        full = 0
        for program, frames, command, breaks in cases():
            told = Halts(program, frames, command, breaks)
            last = len(frames) - 1
            halts = {(spot, -1 if spot in breaks else depth) for spot, depth in told.halts}
            lines = {spot[1] for spot, depth in told.passed if depth == last}
            spots = {spot for spot, depth in told.passed if depth > last}
            found = halts_of(program, frames, command, breaks=breaks)
            way = on_the_way(program, frames, command, breaks=breaks)
            if told.is_all:
                full += 1
                self.same(tuple(sorted(halts)), found)
                self.same((tuple(sorted(lines)), tuple(sorted(spots))), way)
                self.same(bool(told.ends), may_end(program, frames, command, breaks=breaks))
            else:
                self.assertTrue(halts <= set(found))
                self.assertTrue(lines <= set(way[0]) and spots <= set(way[1]))
                self.assertTrue(may_end(program, frames, command, breaks=breaks) or not told.ends)
            self.assertEqual(found, tuple(sorted(set(found))))
        self.assertGreater(full, 400)

    def test_recursion_looked_at_far_enough(self):
        for program, frames in ((AGAIN, (('again', 0),)), (TWICE, (('twice', 0), ('twice', 0))), (RING, (('a', 0),))):
            for command in COMMANDS:
                told = Halts(program, frames, command, (), most=400)
                last = len(frames) - 1
                self.gives(tuple(sorted(told.halts)), halts_of, program, frames, command)
                self.gives((tuple(sorted({spot[1] for spot, depth in told.passed if depth == last})),
                            tuple(sorted({spot for spot, depth in told.passed if depth > last}))),
                           on_the_way, program, frames, command)


class WrongTest(Checks):

    def test_frames(self):
        for thing in anything() + [('g', 1), ('f', True), ('h', 0), ['f', 0], ('main', 3)]:
            if repr(thing) in [repr(spot) for spot in spots_of(PROGRAM)]:
                continue
            for function in FUNCTIONS:
                self.raises(NotUsable, ('frames', 0), function, PROGRAM, (thing,), 'out')
                self.raises(NotUsable, ('frames', 1), function, PROGRAM, (('main', 0), thing), 'go')
                self.raises(NotUsable, ('frames', 2), function, program=PROGRAM,
                            frames=(('main', 0), ('f', 1), thing, thing), command=None, breaks=())

    def test_functions_that_the_line_below_does_not_call(self):
        for frames, k in (((('main', 0), ('g', 0)), 1), ((('main', 1), ('f', 0)), 1), ((('f', 0), ('g', 0)), 1),
                          ((('main', 0), ('f', 1), ('f', 0)), 2), ((('g', 0), ('g', 0), ('zz', 0)), 1)):
            for function in FUNCTIONS:
                self.raises(NotUsable, ('frames', k), function, PROGRAM, frames, 'out')
                self.raises(NotUsable, ('frames', k), function, PROGRAM, frames, 'go', breaks=(('f', 0),))

    def test_commands(self):
        for thing in anything() + ['go', 'Out', '', ('out',), True]:
            if not isinstance(thing, str) or thing not in COMMANDS:
                for function in FUNCTIONS:
                    self.raises(NotUsable, ('command', 0), function, PROGRAM, IN_F, thing)
                    self.raises(NotUsable, ('command', 0), function, program=PROGRAM, frames=IN_F, command=thing,
                                breaks=(('f', 0),))


class ConsequencesTest(Checks):

    def test_step_next_out(self):
        for program, frames, _, breaks in cases():
            last = len(frames) - 1
            step, following, out = [set(halts_of(program, frames, command, breaks=breaks)) for command in COMMANDS]
            self.assertTrue({pair for pair in step if pair[1] <= last} <= following)
            self.assertTrue({pair for pair in following if pair[1] != last} <= out)

    def test_more_breakpoints(self):
        for program, frames, command, breaks in cases():
            added = (spots_of(program)[0], ('zz', 4))
            more = tuple(sorted({*breaks, *added}))
            before = {spot for spot, _ in halts_of(program, frames, command, breaks=breaks)}
            after = {spot for spot, _ in halts_of(program, frames, command, breaks=more)}
            self.assertTrue({spot for spot in after if spot not in added} <= before)
            way, less = [on_the_way(program, frames, command, breaks=some) for some in (breaks, more)]
            self.assertTrue(set(less[0]) <= set(way[0]) and set(less[1]) <= set(way[1]))


if __name__ == '__main__':
    unittest.main()
