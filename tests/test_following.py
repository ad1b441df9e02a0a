import unittest
from random import Random

from outandover.errors import InvalidPaper, NotUsable
from outandover.following import guide_stops, stops_in
from outandover.packedchecker import lets_packed
from outandover.packing import arrivals_in, packed_of
from outandover.reaching import nearest
from checks import Checks
from oracle import guide_stops_by_rules, packed_by_chance, written
from samples import (
    AGAIN, BACK, F, FAULTS, G, GO, LIVES, LONG, PACKED, PROGRAM, RUN, STEP, TWICE, WATCH, anything, chain,
    guided_programs, random_guide, random_run,
)


def one(command, breaks=()):
    """A guide of one rule."""
    return ((('', command, breaks, 0),),)


def doubled(many):
    """A packed run of AGAIN's kind in which each life contains the one before it twice."""
    program = (('begins', ((('twice',), (BACK,), ()),)),) + TWICE
    lives = [('twice', (0, 0, 0, 0))]
    for k in range(many):
        lives.append(('twice', (1, ('life', k), 0, 1, ('life', k), 0)))
    return program, ((('begins', 0),), tuple(lives), (0, ('life', many), 0))


class GuideStopsTest(Checks):

    def test_of_the_document(self):
        self.gives((0, 3, 4), guide_stops, PROGRAM, WATCH, RUN)
        self.gives((0, 3), guide_stops, PROGRAM, GO, RUN)

    def test_by_the_definition(self):
        programs = guided_programs()
        for seed in range(1500):
            chance = Random(seed)
            program = programs[seed % len(programs)]
            guide = random_guide(chance, program, 4, 4, 3)
            run = random_run(program, seed, chance.randint(0, 40))
            self.gives(guide_stops_by_rules(program, guide, run), guide_stops, program, guide, run)

    def test_by_name(self):
        self.gives((0,), guide_stops, program=PROGRAM, guide=one('next'), run=RUN[:7])
        with self.assertRaises(TypeError):
            guide_stops(PROGRAM, GO)

    def test_each_command(self):
        self.gives((0, 1, 2, 3, 4), guide_stops, PROGRAM, STEP, RUN)
        self.gives((0, 4), guide_stops, PROGRAM, one('next'), RUN)
        self.gives((0,), guide_stops, PROGRAM, one('out'), RUN)
        self.gives((0,), guide_stops, PROGRAM, one('go'), RUN)
        inside = ((('main', 'step', (), 0), ('', 'out', (), 0)),)
        self.gives((0, 1, 4), guide_stops, PROGRAM, inside, RUN)
        inside = ((('main', 'step', (), 0), ('', 'next', (), 0)),)
        self.gives((0, 1, 2, 4), guide_stops, PROGRAM, inside, RUN)

    def test_commands_in_the_lowest_frame(self):
        # The lowest frame is never left here, so that "out" never lands in it.
        program = (('loops', ((('',), (0,), ()),)),)
        run = (0, 0) * 5
        self.gives((0, 1, 2, 3, 4, 5), guide_stops, program, one('next'), run)
        self.gives((0, 1, 2, 3, 4, 5), guide_stops, program, STEP, run)
        self.gives((0,), guide_stops, program, one('out'), run)
        self.gives((0,), guide_stops, program, one('go'), run)
        self.gives((0, 1, 2, 3, 4, 5), guide_stops, program, one('out', (('loops', 0),)), run)

    def test_breakpoints(self):
        # In a called frame, in the frame itself, and behind a fault.
        self.gives((0, 3, 4), guide_stops, PROGRAM, one('out', (('g', 0),)), RUN)
        self.gives((0, 4), guide_stops, PROGRAM, one('out', (('main', 1),)), RUN)
        self.gives((0, 2), guide_stops, PROGRAM, one('go', (('main', 2),)), (0, 0, 1))
        self.gives((0, 2, 4), guide_stops, PROGRAM, one('next', (('f', 1),)), RUN)
        self.gives((0, 1), guide_stops, PROGRAM, one('go', (('f', 0), ('g', 9), ('zz', 0))), RUN)
        # A breakpoint at the stop itself does not halt the command there.
        self.gives((0,), guide_stops, PROGRAM, one('go', (('main', 0),)), RUN)

    def test_the_last_command_counts(self):
        # Behind the stop at g 0 the "next" that was given at main 0 is left.
        states = ((('main', 'next', (('g', 0),), 1),), (('', 'go', (), 1),))
        states = (states[0] + (('', 'step', (), 0),), states[1])
        self.gives((0, 3), guide_stops, PROGRAM, states, RUN)

    def test_rules_of_each_kind(self):
        rules = (('f', 'next', (), 0), (('f', 0), 'step', (), 0), (('g', 0), 'out', (), 0), (('zz', 1), 'go', (), 0),
                 ('zz', 'go', (), 0), ('', 'step', (), 0))
        self.gives((0, 1, 2, 4), guide_stops, PROGRAM, (rules,), RUN)
        self.gives((0, 1, 2, 3, 4), guide_stops, PROGRAM, (rules[1:],), RUN)

    def test_states(self):
        # Six states in turn, of which only two give "step".
        states = tuple([(('', 'step' if k % 3 == 0 else 'next', (), (k + 1) % 6),) for k in range(6)])
        run = (1, 1, 1, 1, 1, 0, 0, 0, 0, 0, 0)
        self.gives(guide_stops_by_rules(AGAIN, states, run), guide_stops, AGAIN, states, run)
        # A state that is never reached.
        self.gives((0, 3, 4), guide_stops, PROGRAM, WATCH + ((('', 'go', (), 1),),), RUN)
        self.gives((0, 4), guide_stops, PROGRAM, ((('', 'next', (), 1),), (('', 'go', (), 1),)), RUN)

    def test_wrong_runs(self):
        for k in range(len(RUN)):
            for thing in anything() + [9]:
                if repr(thing) not in ('0', '1'):
                    self.raises(NotUsable, ('choice', k), guide_stops, PROGRAM, WATCH, RUN[:k] + (thing,) + RUN[k + 1:])
        self.raises(NotUsable, ('choice', len(RUN)), guide_stops, PROGRAM, GO, RUN + (0, 0))
        self.raises(NotUsable, ('choice', 0), guide_stops, PROGRAM, GO, (1, True))

    def test_long_runs(self):
        program = chain(['a', 'b', 'c'], 3)
        run = random_run(program, 1, 410)
        for guide in (STEP, one('next'), one('out', (('c', 2),)), one('go', (('b', 1), ('c', 0)))):
            self.gives(guide_stops_by_rules(program, guide, run), guide_stops, program, guide, run)
        run = (1,) * 410
        self.gives(tuple(range(411)), guide_stops, AGAIN, STEP, run)
        self.gives((0,), guide_stops, AGAIN, one('next'), run)


class StopsInTest(Checks):

    def test_of_the_document(self):
        self.gives(3, stops_in, PROGRAM, WATCH, PACKED)

    def test_against_the_run_written_out(self):
        programs = guided_programs()
        met = 0
        for seed in range(1500):
            chance = Random(seed)
            program = programs[seed % len(programs)]
            guide = random_guide(chance, program, 4, 4, 3)
            run = random_run(program, seed, chance.randint(0, 40))
            packed = packed_by_chance(program, run, chance)
            self.assertEqual(written(packed), run)
            met += packed[1] != ()
            self.gives(len(guide_stops_by_rules(program, guide, run)), stops_in, program, guide, packed)
        self.assertGreater(met, 300)

    def test_ordinary(self):
        self.gives(5, stops_in, program=PROGRAM, guide=STEP, packed=packed_of(PROGRAM, RUN))
        self.gives(1, stops_in, PROGRAM, STEP, packed_of(PROGRAM, ()))
        self.gives(6 + 1, stops_in, TWICE, STEP, LONG)
        self.gives(2, stops_in, PROGRAM, GO, PACKED)

    def test_lives_in_several_situations(self):
        # One life that is used behind "step", behind "out" with a breakpoint in it, and behind "go".
        program = (('main', tuple([(('f',), (k + 1,), ()) for k in range(5)] + [(('',), (BACK,), ())])), F, G)
        items = (0, ('life', 1), 0) * 5 + (0, 0)
        packed = ((('main', 0),), LIVES, items)
        run = written(packed)
        chance = Random(5)
        for _ in range(200):
            guide = random_guide(chance, program, 6, 4, 3)
            self.gives(len(guide_stops_by_rules(program, guide, run)), stops_in, program, guide, packed)

    def test_frames_of_the_same_function_in_one_another(self):
        program, packed = doubled(5)
        run = written(packed)
        for guide in (STEP, one('next'), one('out'), one('go', (('twice', 1),)), one('next', (('twice', 0),))):
            self.gives(len(guide_stops_by_rules(program, guide, run)), stops_in, program, guide, packed)
        chance = Random(8)
        for _ in range(200):
            guide = random_guide(chance, program, 6, 4, 3)
            self.gives(len(guide_stops_by_rules(program, guide, run)), stops_in, program, guide, packed)

    def test_great_length(self):
        program, packed = doubled(79)
        arrivals = lets_packed(program, packed)
        self.assertGreater(arrivals, 2 ** 79)
        self.gives(arrivals + 1, stops_in, program, STEP, packed)
        self.gives(1, stops_in, program, one('next'), packed)
        self.gives(arrivals_in(program, packed, at=('twice', 1)) + 1, stops_in, program, one('go', (('twice', 1),)), packed)
        self.gives(arrivals_in(program, packed, at=('twice', 0)) + 1, stops_in, program, one('go', (('twice', 0),)), packed)
        inside = ((('begins', 'step', (), 0), ('', 'next', (), 0)),)
        self.gives(3, stops_in, program, inside, packed)
        self.gives(2, stops_in, program, ((('begins', 'step', (), 0), ('', 'out', (), 0)),), packed)

    def test_many_lives_in_one_another(self):
        # More lives than calls of Python may stand in one another.
        lives = [('again', (0, 0, 0, 0))]
        for k in range(1500):
            lives.append(('again', (1, ('life', k), 0, 0, 0)))
        packed = ((('again', 0),), tuple(lives), (1, ('life', 1500), 0, 0, 0))
        arrivals = lets_packed(AGAIN, packed)
        self.gives(arrivals + 1, stops_in, AGAIN, STEP, packed)
        self.gives(2, stops_in, AGAIN, one('next'), packed)

    def test_faults_that_leave_lives(self):
        chance = Random(1)
        for seed in range(300):
            run = random_run(FAULTS, seed, 30)
            packed = packed_by_chance(FAULTS, run, chance)
            guide = random_guide(chance, FAULTS, 3, 3, 3)
            self.gives(len(guide_stops_by_rules(FAULTS, guide, run)), stops_in, FAULTS, guide, packed)

    def test_errors_of_lets_packed(self):
        things = anything() + [(PACKED[0], LIVES, (0, ('life', 0), 0)), (PACKED[0], LIVES[1:], ()),
                               (PACKED[0], (('h', ()),), ()), (PACKED[0], (('g', (0,)),), ()), ((('main', 3),), (), ()),
                               ((('f', 0),), (), (0, 7)), list(PACKED), (PACKED[0], (), (0, 0, True))]
        for thing in things:
            try:
                lets_packed(PROGRAM, thing)
            except InvalidPaper as error:
                self.raises(InvalidPaper, (error.word, error.at), stops_in, PROGRAM, WATCH, thing)
            else:
                self.fail(thing)

    def test_frames(self):
        for frames in ((('f', 0),), (('main', 1),), (('main', 0), ('f', 0)), (('g', 0),)):
            self.raises(NotUsable, ('frames', -1), stops_in, PROGRAM, WATCH, (frames, (), ()))
            self.raises(NotUsable, ('frames', -1), stops_in, PROGRAM, GO, (frames, LIVES, (0,)))
        self.raises(InvalidPaper, ('item', (-1, 1)), stops_in, PROGRAM, GO, ((('f', 0),), (), (0, 2)))

    def test_runs_of_the_package(self):
        for program in guided_programs()[:30]:
            for name, lines in program:
                for index in range(len(lines)):
                    packed = nearest(program, (name, index))
                    if packed is not None:
                        self.gives(lets_packed(program, packed) + 1, stops_in, program, STEP, packed)


if __name__ == '__main__':
    unittest.main()
