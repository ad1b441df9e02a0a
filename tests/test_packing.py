import unittest
from random import Random

from outandover.choosing import arrivals_of, end_of, frames_after, is_behind
from outandover.errors import InvalidPaper, NotUsable
from outandover.packedchecker import lets_packed
from outandover.packing import arrivals_in, end_behind, frames_behind, joined, packed_of, written_out
from outandover.programparts import spots_of
from checks import Checks
from oracle import machine_behind, packed_by_chance, written
from samples import AGAIN, BACK, FAULTS, F, G, PROGRAM, RUN, SAMPLES, TWICE, anything, random_program, random_run

START = (('main', 0),)
LIVES = (('g', (0, 0)), ('f', (0, 0, 1, ('life', 0), 0)))
PACKED = (START, LIVES, (0, ('life', 1), 0))
LONG = ((('twice', 0),), (('twice', (0, 0, 0, 0)), ('twice', (1, ('life', 0), 0, 1, ('life', 0), 0))), (1, ('life', 1)))
LIFE = ('life', 0)


def doubled(many):
    """A packed run of TWICE with so many lives, each of which contains the one before it twice."""
    lives = [('twice', (0, 0, 0, 0))]
    for k in range(many - 1):
        lives.append(('twice', (1, ('life', k), 0, 1, ('life', k), 0)))
    return ((('twice', 0),), tuple(lives), (1, ('life', many - 1), 0, 1, ('life', many - 1), 0))


def cases():
    """Pairs of a program, a run and a packed run that stands for it."""
    programs = SAMPLES + tuple([random_program(seed) for seed in range(50)])
    for seed in range(200):
        program = programs[seed % len(programs)]
        run = random_run(program, seed, 50)
        yield program, run, packed_by_chance(program, run, Random(seed))


class WrongPackedTest(Checks):

    def test_the_errors_of_lets_packed(self):
        things = anything() + [(START, LIVES, (0, ('life', 0), 0)), ((('main', 3),), (), ()), (START, (('g', (0,)),), ()),
                               (START, (('h', (0,)),), ())]
        for thing in things:
            with self.assertRaises(InvalidPaper) as caught:
                lets_packed(PROGRAM, thing)
            fields = tuple(vars(caught.exception).values())
            for function in (written_out, arrivals_in, frames_behind, end_behind):
                self.raises(InvalidPaper, fields, function, PROGRAM, thing)
                self.raises(InvalidPaper, fields, function, program=PROGRAM, packed=thing)
            self.raises(InvalidPaper, fields, arrivals_in, PROGRAM, thing, at=None)
            self.raises(InvalidPaper, fields, joined, PROGRAM, thing, None)
            self.raises(InvalidPaper, fields, joined, PROGRAM, PACKED, thing)
            # The errors of other come ahead of frames that do not fit.
            self.raises(InvalidPaper, fields, joined, PROGRAM, ((('g', 0),), (), (0, 0)), thing)

    def test_packed_is_told_before_other(self):
        self.raises(InvalidPaper, ('stack', 0), joined, PROGRAM, ((('h', 0),), (), ()), (START, (), (7,)))
        self.raises(InvalidPaper, ('item', (-1, 0)), joined, PROGRAM, (START, (), (7,)), ((('h', 0),), (), ()))


class WrittenOutTest(Checks):

    def test_of_the_document(self):
        self.gives((0, 0, 0, 1, 0, 0, 0, 0), written_out, PROGRAM, PACKED)
        self.gives((1, 1, 0, 0, 0, 0, 0, 1, 0, 0, 0, 0, 0), written_out, program=TWICE, packed=LONG)

    def test_against_the_oracle(self):
        for program, run, packed in cases():
            self.assertEqual(written(packed), run)
            self.gives(run, written_out, program, packed)

    def test_four_hundred_choices(self):
        run = (0, 0) * 200
        loop = (('f', ((('',), (0, BACK), ()),)),)
        self.gives(run, written_out, loop, ((('f', 0),), (), run))
        self.raises(NotUsable, ('long', 401), written_out, loop, ((('f', 0),), (), run + (0,)))
        self.raises(NotUsable, ('long', 402), written_out, loop, ((('f', 0),), (), run + (0, 1)))

    def test_four_hundred_choices_with_lives(self):
        loop = (('f', ((('', 'f'), (0, BACK), ()),)),)
        inner = (0, 0) * 98 + (0, 1)
        lives = (('f', inner),)
        self.assertEqual(len(inner), 198)
        # Two lives with their calls and ways are exactly 400.
        self.gives((1,) + inner + (0, 1) + inner + (1,), written_out, loop,
                   ((('f', 0),), lives, (1, LIFE, 0, 1, LIFE, 1)))
        self.raises(NotUsable, ('long', 401), written_out, loop,
                    ((('f', 0),), lives, (1, LIFE, 0, 1, LIFE, 0, 0)))

    def test_too_long_to_write(self):
        for many in (1, 5, 6, 7, 60, 80):
            length = length_of(many)
            if length <= 400:
                self.assertEqual(len(written_out(TWICE, doubled(many))), length)
            else:
                self.raises(NotUsable, ('long', length), written_out, TWICE, doubled(many))
        self.assertGreater(length_of(60), 2 ** 60)

    def test_long_lives_that_are_not_used(self):
        frames, lives, _ = doubled(80)
        self.gives((1, 0, 0, 0, 0), written_out, TWICE, (frames, lives, (1, LIFE)))


def length_of(many):
    """How many choices doubled(many) stands for."""
    inner = 4
    for _ in range(many - 1):
        inner = 2 * inner + 4
    return 2 * inner + 4


class PackedOfTest(Checks):

    def test_it_stands_for_the_run(self):
        for program, run, _ in cases():
            packed = packed_of(program, run)
            self.gives(len(arrivals_of(program, run)) - 1, lets_packed, program, packed)
            self.gives(run, written_out, program, packed)
            self.gives(((program[0][0], 0),), lambda packed=packed: packed[0])

    def test_by_name_and_deep(self):
        self.gives(RUN, written_out, PROGRAM, packed_of(program=PROGRAM, run=RUN))
        run = (1,) * 200 + (0, 0, 0, 0) + (0, 0, 0) * 65
        self.gives(run, written_out, AGAIN, packed_of(AGAIN, run))

    def test_wrong_choices(self):
        self.raises(NotUsable, ('choice', 10), packed_of, PROGRAM, RUN + (0,))
        self.raises(NotUsable, ('choice', 2), packed_of, PROGRAM, (0, 0, True))
        self.raises(NotUsable, ('choice', 1), packed_of, PROGRAM, (0, LIFE))
        for thing in anything():
            if repr(thing) != '0':
                self.raises(NotUsable, ('choice', 0), packed_of, PROGRAM, (thing,))


class ToldTest(Checks):

    def test_of_the_document(self):
        self.gives(6, arrivals_in, TWICE, LONG)
        self.gives(3, arrivals_in, TWICE, LONG, at=('twice', 1))
        self.gives(3, arrivals_in, program=TWICE, packed=LONG, at=('twice', 0))
        self.gives(6, arrivals_in, TWICE, LONG, at=())
        self.gives((('twice', 0),), frames_behind, TWICE, LONG)
        self.gives((), end_behind, PROGRAM, PACKED)
        self.gives((('main', 1),), frames_behind, program=PROGRAM, packed=PACKED)

    def test_at_stands_behind_a_star(self):
        with self.assertRaises(TypeError):
            arrivals_in(TWICE, LONG, ('twice', 1))

    def test_wrong_spots(self):
        for thing in anything() + [('f', True), ('g', False), ('g', 1), ('h', 0), [], None, 0, '']:
            if repr(thing) not in [repr(spot) for spot in spots_of(PROGRAM)] and repr(thing) != '()':
                self.raises(NotUsable, ('spot', thing), arrivals_in, PROGRAM, PACKED, at=thing)

    def test_what_is_told_of_the_run(self):
        for program, run, packed in cases():
            arrivals = arrivals_of(program, run)[1:]
            self.gives(len(arrivals), arrivals_in, program, packed)
            for spot in spots_of(program):
                many = len([at for _, at in arrivals if at == spot])
                self.gives(many, arrivals_in, program, packed, at=spot)
            self.gives(frames_after(program, run), frames_behind, program, packed)
            self.gives(end_of(program, run), end_behind, program, packed)

    def test_rests_of_several_frames(self):
        frames = (('main', 0), ('f', 1), ('g', 0))
        self.gives(frames, frames_behind, PROGRAM, (frames, (), ()))
        self.gives((('main', 0), ('f', 1)), frames_behind, PROGRAM, (frames, (), (0, 0)))
        self.gives((('main', 0),), frames_behind, PROGRAM, (frames, (), (0, 0, 0)))
        self.gives((('main', 1),), frames_behind, PROGRAM, (frames, (), (0, 0, 0, 0)))
        self.gives((), frames_behind, PROGRAM, (frames, (), (0, 0, 0, 0, 0, 0)))
        self.gives(BACK, end_behind, PROGRAM, (frames, (), (0, 0, 0, 0, 0, 0)))
        self.gives((), end_behind, PROGRAM, (frames, (), (0, 0, 0, 0, 0)))

    def test_against_the_oracle_with_several_frames(self):
        for seed in range(150):
            program = random_program(seed % 40)
            frames = machine_behind(program, random_run(program, seed, 12)).frames()
            if not frames:
                continue
            chance = Random(seed)
            machine, choices = machine_behind(program, (), frames), []
            while machine.options() > 0 and len(choices) < 30:
                choices.append(chance.randrange(machine.options()))
                machine.choose(choices[-1])
            packed = packed_by_chance(program, choices, chance, frames)
            self.gives(tuple(choices), written_out, program, packed)
            self.gives(machine.frames(), frames_behind, program, packed)
            self.gives(machine.end, end_behind, program, packed)
            self.gives(len(machine.arrivals) - 1, arrivals_in, program, packed)

    def test_ends(self):
        self.gives(('fail', 'bad'), end_behind, (F, G), ((('f', 0),), (), (0, 1)))
        self.gives((), frames_behind, (F, G), ((('f', 0),), (), (0, 1)))
        self.gives(BACK, end_behind, PROGRAM, ((('g', 0),), (), (0, 0)))
        lives = (('low', (0, 3)), ('mid', (0, LIFE)))
        self.gives(('fail', 'red'), end_behind, FAULTS, ((('mid', 0),), lives, (1, ('life', 1))))
        self.gives((('top', 1),), frames_behind, FAULTS, ((('top', 0),), lives, (0, ('life', 1))))

    def test_more_than_can_be_written(self):
        for many in (60, 80):
            packed = doubled(many)
            self.assertGreater(arrivals_in(TWICE, packed), 2 ** many)
            self.gives(lets_packed(TWICE, packed), arrivals_in, TWICE, packed)
            self.gives(4 * 2 ** many - 3, arrivals_in, TWICE, packed)
            at_0 = arrivals_in(TWICE, packed, at=('twice', 0))
            at_1 = arrivals_in(TWICE, packed, at=('twice', 1))
            self.gives(4 * 2 ** many - 3, lambda: at_0 + at_1)
            self.gives(2 ** (many + 1) - 1, arrivals_in, TWICE, packed, at=('twice', 1))
            self.gives((), frames_behind, TWICE, packed)
            self.gives(BACK, end_behind, TWICE, packed)


class JoinedTest(Checks):

    def test_of_the_document(self):
        found = joined(PROGRAM, PACKED, ((('main', 1),), (), (0, 0)))
        self.gives(RUN, written_out, PROGRAM, found)
        self.raises(NotUsable, ('frames', -1), joined, TWICE, LONG, ((('twice', 0),), (), ()))

    def test_packed_runs_parted_and_joined(self):
        tried = 0
        for program, run, _ in cases():
            chance = Random(len(run))
            for many in range(chance.randrange(3), len(run) + 1, 3):
                if is_behind(program, run[:many]) or frames_after(program, run[:many]) == ():
                    continue
                frames = frames_after(program, run[:many])
                one = packed_by_chance(program, run[:many], chance)
                two = packed_by_chance(program, run[many:], chance, frames)
                found = joined(program, one, two)
                self.assertEqual(found[0], one[0])
                self.gives(run, written_out, program, found)
                self.gives(arrivals_in(program, one) + arrivals_in(program, two), arrivals_in, program, found)
                self.gives(frames_after(program, run), frames_behind, program, found)
                tried += 1
        self.assertGreater(tried, 500)

    def test_no_items(self):
        frames = (('main', 0), ('f', 1))
        two = (frames, (), (1, 0, 0, 0))
        self.gives((1, 0, 0, 0), written_out, PROGRAM, joined(program=PROGRAM, packed=(frames, (), ()), other=two))
        self.gives((), written_out, PROGRAM, joined(PROGRAM, (frames, (), ()), (frames, LIVES, ())))
        self.raises(NotUsable, ('frames', -1), joined, PROGRAM, (frames, (), ()), ((('f', 1),), (), ()))

    def test_lives_of_both(self):
        one = (START, LIVES, (0, ('life', 1), 0))
        two = ((('main', 1),), (('g', (0, 0)), ('f', (0, 1))), (0, 1, 0, ('life', 1)))
        found = joined(PROGRAM, one, two)
        self.gives((0, 0, 0, 1, 0, 0, 0, 0, 0, 1, 0, 0, 1), written_out, PROGRAM, found)
        self.gives((('main', 2),), frames_behind, PROGRAM, found)
        # What is joined can be joined again.
        self.gives((('g', 0),), lambda: frames_behind(PROGRAM, joined(PROGRAM, found, ((('main', 2),), (), (1,))))[1:])

    def test_frames_that_do_not_fit(self):
        for frames in ((('main', 0),), (('main', 2),), (('main', 0), ('f', 0)), (('f', 1),), (('g', 0),)):
            self.raises(NotUsable, ('frames', -1), joined, PROGRAM, PACKED, (frames, (), ()))
        one = (START, (), (0,))
        self.raises(NotUsable, ('frames', -1), joined, PROGRAM, one, ((('f', 0),), (), ()))
        self.gives((0,), written_out, PROGRAM, joined(PROGRAM, one, ((('main', 0), ('f', 0)), (), ())))

    def test_behind_the_end(self):
        over = ((('g', 0),), (), (0, 0))
        self.raises(NotUsable, ('frames', -1), joined, PROGRAM, over, ((('g', 0),), (), ()))
        self.raises(NotUsable, ('frames', -1), joined, (F, G), ((('f', 0),), (), (0, 1)), ((('f', 0),), (), ()))

    def test_where_a_way_is_chosen_next(self):
        self.raises(NotUsable, ('frames', -1), joined, PROGRAM, ((('g', 0),), (), (0,)), ((('g', 0),), (), (0, 0)))
        self.raises(NotUsable, ('frames', -1), joined, PROGRAM, (START, LIVES, (0, ('life', 1))), (START, (), ()))

    def test_more_than_can_be_written(self):
        frames, lives, _ = doubled(80)
        half = (frames, lives, (1, ('life', 79), 0))
        rest = ((('twice', 1),), lives, (1, ('life', 79), 0))
        found = joined(TWICE, half, rest)
        self.gives(arrivals_in(TWICE, half) + arrivals_in(TWICE, rest), arrivals_in, TWICE, found)
        self.gives(4 * 2 ** 80 - 3, lets_packed, TWICE, found)
        self.gives(BACK, end_behind, TWICE, found)


if __name__ == '__main__':
    unittest.main()
