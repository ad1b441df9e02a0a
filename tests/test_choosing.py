import unittest

from outandover.choosing import arrivals_of, end_of, frames_after, is_behind, is_run, options_after
from outandover.errors import NotUsable
from checks import Checks
from oracle import machine_behind
from samples import (
    AGAIN, BACK, FAULTS, F, G, PROGRAM, RING, RUN, SAMPLES, STUCK, TWICE, anything, random_program, random_run,
)

ALL = (options_after, arrivals_of, frames_after, is_behind, end_of)

# Deep in again: a hundred calls, each of which is made at line 0.
DEEP = (1,) * 100


class RunsTest(Checks):

    def test_of_the_document(self):
        self.gives(1, options_after, PROGRAM, ())
        self.gives(2, options_after, program=PROGRAM, run=RUN[:3])
        self.gives(0, options_after, PROGRAM, RUN)
        self.gives(False, is_run, PROGRAM, RUN + (0,))
        self.gives(True, is_run, program=PROGRAM, thing=RUN)
        self.gives(((0, ('main', 0)), (1, ('f', 0)), (0, ('main', 2))), arrivals_of, program=PROGRAM, run=(0, 0, 1))
        self.gives((('main', 0), ('f', 1)), frames_after, program=PROGRAM, run=RUN[:6])
        self.gives(True, is_behind, program=PROGRAM, run=RUN[:6])
        self.gives((), end_of, program=PROGRAM, run=RUN[:6])
        self.gives(BACK, end_of, PROGRAM, RUN)

    def test_each_beginning_of_the_run(self):
        spots = [
            (('main', 0),), (('main', 0), ('f', 0)), (('main', 0), ('f', 0)), (('main', 0), ('f', 1)),
            (('main', 0), ('f', 1), ('g', 0)), (('main', 0), ('f', 1), ('g', 0)), (('main', 0), ('f', 1)),
            (('main', 0),), (('main', 1),), (('main', 1),), (),
        ]
        behind = [False, False, True, False, False, True, True, True, False, True, False]
        options = [1, 1, 2, 2, 1, 1, 1, 1, 1, 2, 0]
        for many in range(11):
            self.gives(spots[many], frames_after, PROGRAM, RUN[:many])
            self.gives(behind[many], is_behind, PROGRAM, RUN[:many])
            self.gives(options[many], options_after, PROGRAM, RUN[:many])
            self.gives(BACK if many == 10 else (), end_of, PROGRAM, RUN[:many])
        self.gives(((0, ('main', 0)), (1, ('f', 0)), (1, ('f', 1)), (2, ('g', 0)), (0, ('main', 1))),
                   arrivals_of, PROGRAM, RUN)

    def test_no_choices(self):
        for program in SAMPLES:
            spot = (program[0][0], 0)
            self.gives(((0, spot),), arrivals_of, program, ())
            self.gives((spot,), frames_after, program, ())
            self.gives(False, is_behind, program, ())
            self.gives((), end_of, program, ())
            self.gives(True, is_run, program, ())

    def test_against_the_oracle(self):
        programs = SAMPLES + tuple([random_program(seed) for seed in range(60)])
        for seed in range(300):
            program = programs[seed % len(programs)]
            run = random_run(program, seed, 40)
            machine = machine_behind(program, run)
            self.gives(machine.options(), options_after, program, run)
            self.gives(tuple(machine.arrivals), arrivals_of, program, run)
            self.gives(machine.frames(), frames_after, program, run)
            self.gives(machine.behind and machine.stack != [], is_behind, program, run)
            self.gives(machine.end, end_of, program, run)
            self.gives(True, is_run, program, run)


class FaultsTest(Checks):
    """FAULTS: low fails by its ways 1 (blue), 2 (green) and 3 (red)."""

    def lands(self, run, frames, end=()):
        self.gives(frames, frames_after, FAULTS, run)
        self.gives(end, end_of, FAULTS, run)

    def test_handled_by_a_kind_in_the_frame_below(self):
        self.lands((0, 0, 0, 2), (('top', 0), ('mid', 1)))

    def test_several_frames_are_left(self):
        # mid calls mid calls mid calls low, and none of them handles red.
        self.lands((0, 1, 1, 0, 0, 3), (('top', 1),))
        self.gives(5, lambda: arrivals_of(FAULTS, (0, 1, 1, 0, 0, 3)).index((0, ('top', 1))))

    def test_the_first_of_two_handlers_that_fit(self):
        # "" stands before blue in top.
        self.lands((0, 0, 0, 1), (('top', 2),))

    def test_handled_by_none(self):
        run = (0, 0, 0, 0, 0, 0)
        self.lands(run, (('top', 4),))
        self.lands(run + (0, 1), (), ('fail', 'last'))
        self.lands(run + (1, 0, 0, 3), (), ('fail', 'red'))
        self.lands(run + (1, 0, 0, 1), (('top', 3),))

    def test_the_very_line_handles_its_own_fault(self):
        own = (('f', ((('',), (('fail', 'x'), ('fail', 'y')), (('x', 0),)),)),)
        self.gives(((0, ('f', 0)), (0, ('f', 0))), arrivals_of, own, (0, 0))
        self.gives((), end_of, own, (0, 0))
        self.gives(('fail', 'y'), end_of, own, (0, 0, 0, 1))
        self.gives((), frames_after, own, (0, 0, 0, 1))

    def test_behind_a_fault_no_way_is_chosen(self):
        self.gives(False, is_behind, PROGRAM, (0, 0, 1))
        self.gives(2, options_after, PROGRAM, (0, 0, 1))
        self.gives((('main', 2),), frames_after, PROGRAM, (0, 0, 1))

    def test_the_whole_run_fails(self):
        self.gives(('fail', 'bad'), end_of, (F, G), (0, 1))
        self.gives(False, is_behind, (F, G), (0, 1))
        self.gives(0, options_after, (F, G), (0, 1))
        self.gives(((0, ('f', 0)),), arrivals_of, (F, G), (0, 1))


class DeepTest(Checks):

    def test_a_hundred_frames_and_more(self):
        for depth in (100, 200, 399):
            run = (1,) * depth
            self.gives((('again', 0),) * (depth + 1), frames_after, AGAIN, run)
            self.gives(tuple([(at, ('again', 0)) for at in range(depth + 1)]), arrivals_of, AGAIN, run)
            self.gives(2, options_after, AGAIN, run)

    def test_a_hundred_frames_end_one_by_one(self):
        run = DEEP + (0, 0, 0, 0) + (0, 0, 0) * 99
        self.gives((('again', 0),), frames_after, AGAIN, run)
        self.gives(True, is_behind, AGAIN, run)
        self.gives(BACK, end_of, AGAIN, run + (0, 0, 0))
        self.gives(True, is_run, AGAIN, run + (0, 0, 0))
        self.gives(False, is_run, AGAIN, run + (0, 0, 0, 0))

    def test_a_fault_through_a_hundred_frames(self):
        deep = (('f', ((('', 'f'), (BACK, ('fail', 'x')), ()),)),)
        self.gives(('fail', 'x'), end_of, deep, (1,) * 150 + (0, 1))
        self.gives((), frames_after, deep, (1,) * 150 + (0, 1))
        held = (('top', ((('f',), (BACK,), (('y', 0), ('', 1))), (('',), (BACK,), ()))),) + deep
        self.gives((('top', 1),), frames_after, held, (0,) + (1,) * 150 + (0, 1))

    def test_four_hundred_choices(self):
        run = (0, 0) * 200
        self.gives(False, is_run, AGAIN, run)
        self.gives((('loops', 0),), frames_after, STUCK[1:2], run)
        self.gives(201, lambda: len(arrivals_of(STUCK[1:2], run)))


class WrongChoicesTest(Checks):

    def wrong(self, at, program, run):
        for function in ALL:
            self.raises(NotUsable, ('choice', at), function, program, run)
            self.raises(NotUsable, ('choice', at), function, program=program, run=run)
        self.gives(False, is_run, program, run)

    def test_any_value_as_a_choice(self):
        for thing in anything():
            if repr(thing) not in ('0', '1'):
                self.wrong(0, AGAIN, (thing,))
                self.wrong(2, AGAIN, (1, 1, thing, 0))

    def test_true_and_false_are_no_choices(self):
        self.wrong(0, AGAIN, (True,))
        self.wrong(0, AGAIN, (False,))
        self.wrong(3, PROGRAM, (0, 0, 0, True))

    def test_choices_too_great_and_negative(self):
        self.wrong(0, PROGRAM, (1,))
        self.wrong(2, PROGRAM, (0, 0, 2))
        self.wrong(2, PROGRAM, (0, 0, -1))
        self.wrong(0, PROGRAM, (10 ** 59,))

    def test_behind_the_end(self):
        self.wrong(10, PROGRAM, RUN + (0,))
        self.wrong(10, PROGRAM, RUN + (None, 0))
        self.wrong(2, (F, G), (0, 1, 0))

    def test_the_first_one_is_told(self):
        self.wrong(1, PROGRAM, (0, 'x', None, True))
        self.wrong(2, PROGRAM, (0, 0, 2, 5))

    def test_any_value_as_a_run(self):
        for thing in anything():
            is_one = repr(thing) in ('()', '(0,)')
            self.gives(is_one, is_run, AGAIN, thing)
        self.gives(False, is_run, PROGRAM, list(RUN))
        self.gives(False, is_run, PROGRAM, [])
        self.gives(False, is_run, PROGRAM, '0')


class ConsequencesTest(Checks):

    def test_a_run_goes_on_by_the_options_alone(self):
        for seed in range(60):
            program = random_program(seed % 20)
            run = random_run(program, seed, 25)
            for many in range(len(run) + 1):
                self.gives(True, is_run, program, run[:many])
            options = options_after(program, run)
            for choice in range(options + 2):
                self.gives(choice < options, is_run, program, run + (choice,))
            for thing in (-1, True, False, None, '0', (0,), 10 ** 30):
                self.gives(False, is_run, program, run + (thing,))

    def test_deeper_by_at_most_one(self):
        for program in SAMPLES:
            for seed in range(20):
                depths = [depth for depth, _ in arrivals_of(program, random_run(program, seed, 60))]
                self.assertEqual(depths[0], 0)
                self.assertTrue(all(later <= depth + 1 for depth, later in zip(depths, depths[1:])))

    def test_rings(self):
        self.gives((('a', 0), ('b', 0), ('c', 0), ('a', 0)), frames_after, RING, (0, 0, 1))
        self.gives(((0, ('twice', 0)), (1, ('twice', 0)), (1, ('twice', 1))), arrivals_of, TWICE, (1, 0, 0))


if __name__ == '__main__':
    unittest.main()
