import unittest
from random import Random

from outandover.errors import InvalidPaper
from outandover.packedchecker import lets_packed
from checks import Checks
from oracle import Machine, machine_behind, packed_by_chance
from samples import (
    AGAIN, BACK, FAULTS, F, G, PROGRAM, RUN, SAMPLES, STUCK, TWICE, anything, nested, random_program, random_run,
)

START = (('main', 0),)
LIVES = (('g', (0, 0)), ('f', (0, 0, 1, ('life', 0), 0)))
PACKED = (START, LIVES, (0, ('life', 1), 0))
LIFE = ('life', 0)


class PackedCheckerTest(Checks):

    def fault(self, word, at, program, thing):
        self.raises(InvalidPaper, (word, at), lets_packed, program, thing)
        self.raises(InvalidPaper, (word, at), lets_packed, program=program, thing=thing)

    def item(self, at, program, thing):
        self.fault('item', at, program, thing)


class CountTest(PackedCheckerTest):

    def test_of_the_document(self):
        self.gives(4, lets_packed, PROGRAM, PACKED)
        self.gives(4, lets_packed, program=PROGRAM, thing=PACKED)
        self.item((-1, 1), PROGRAM, (START, LIVES, (0, ('life', 0), 0)))

    def test_no_items(self):
        for program in SAMPLES:
            self.gives(0, lets_packed, program, (((program[0][0], 0),), (), ()))
        self.gives(0, lets_packed, PROGRAM, ((('main', 0), ('f', 1), ('g', 0)), (), ()))

    def test_choices_alone(self):
        for many in range(11):
            arrivals = len(machine_behind(PROGRAM, RUN[:many]).arrivals) - 1
            self.gives(arrivals, lets_packed, PROGRAM, (START, (), RUN[:many]))

    def test_lives_that_are_not_used(self):
        self.gives(4, lets_packed, PROGRAM, (START, (('g', (0, 0)),) + LIVES[1:] + LIVES[:1] * 3, (0, ('life', 1), 0)))
        self.gives(0, lets_packed, PROGRAM, (START, LIVES, ()))

    def test_one_life_twice(self):
        # Either call of twice goes right through the lower life.
        lives = (('twice', (0, 0, 0, 0)), ('twice', (1, LIFE, 0, 1, LIFE, 0)))
        self.gives(6, lets_packed, TWICE, ((('twice', 0),), lives, (1, ('life', 1))))
        self.gives(9, lets_packed, TWICE, ((('twice', 0),), lives, (1, ('life', 1), 0, 1, LIFE, 0)))

    def test_a_life_that_ends_by_a_fault(self):
        # The line of main that called f fails, and is handled there: an arrival behind the life.
        self.gives(2, lets_packed, PROGRAM, (START, (('f', (0, 1)),), (0, LIFE)))
        self.gives(1, lets_packed, (F, G), ((('f', 0),), (), (0, 0)))
        # Behind the fault the frame stands at the handler's line, whose call is chosen next.
        self.gives(3, lets_packed, PROGRAM, (START, (('f', (0, 1)),), (0, LIFE, 1)))

    def test_a_life_that_ends_all_frames_below(self):
        lives = (('low', (0, 3)), ('mid', (0, LIFE)), ('mid', (1, ('life', 1))))
        self.gives(4, lets_packed, FAULTS, ((('top', 0),), lives, (0, ('life', 2))))
        self.gives(2, lets_packed, FAULTS, ((('top', 0), ('mid', 0)), lives[:1], (0, LIFE)))
        self.gives(1, lets_packed, FAULTS, ((('mid', 0), ('mid', 0)), lives[:1], (0, LIFE)))

    def test_a_later_frame_ends_first(self):
        frames = (('main', 0), ('f', 1), ('g', 0))
        self.gives(0, lets_packed, PROGRAM, (frames, (), (0, 0)))
        self.gives(1, lets_packed, PROGRAM, (frames, (), (0, 0, 0, 0)))
        self.gives(1, lets_packed, PROGRAM, (frames, (), (0, 0, 0, 0, 0, 0)))

    def test_great_numbers(self):
        lives = [('twice', (0, 0, 0, 0))]
        for k in range(79):
            lives.append(('twice', (1, ('life', k), 0, 1, ('life', k), 0)))
        packed = ((('twice', 0),), tuple(lives), (1, ('life', 79)))
        # Life 0 has one arrival behind its first one, each life twice as many as the one before and three.
        self.gives(4 * 2 ** 79 - 3 + 1, lets_packed, TWICE, packed)

    def test_against_the_oracle(self):
        programs = SAMPLES + tuple([random_program(seed) for seed in range(60)])
        for seed in range(300):
            program = programs[seed % len(programs)]
            run = random_run(program, seed, 50)
            packed = packed_by_chance(program, run, Random(seed))
            self.gives(len(machine_behind(program, run).arrivals) - 1, lets_packed, program, packed)


class ShapeTest(PackedCheckerTest):

    def test_any_value(self):
        for thing in anything() + [PACKED[:2], PACKED + ((),), list(PACKED), nested(30)]:
            self.fault('shape', -1, PROGRAM, thing)

    def test_frames(self):
        for frames in ((), [], list(START), None, 'main', ('main', 0), (('main', True),), (('main', -1),), (['main', 0],),
                       (('main', 0), None), (('Main', 0),), (('main', 0, 0),), ('main',)):
            self.fault('shape', -1, PROGRAM, (frames, (), ()))

    def test_lives(self):
        for lives in (None, [], list(LIVES), ('g', (0, 0)), (('g',),), (('g', (0, 0), ()),), (['g', (0, 0)],),
                      (('G', (0, 0)),), (('', (0, 0)),), ((0, (0, 0)),), (('g', [0, 0]),), (('g', 0),), (('g', None),),
                      (('g', (True,)),), (('g', (-1,)),), (('g', (('life', True),)),), (('g', (('life', -1),)),),
                      (('g', (('life',),)),), (('g', (('life', 0, 0),)),), (('g', (['life', 0],)),), LIVES + (None,),
                      (('g', (('lives', 0),)),), (('g', ((0, 'life'),)),), (('g', ('life', 0)),), (('g', ((),)),)):
            self.fault('shape', -1, PROGRAM, (START, lives, ()))

    def test_items(self):
        for items in (None, [], [0], 0, 'life', ('life', 0), (True,), (False,), (-1,), (None,), ('0',), ((),), ((0,),),
                      (0, ('life', None)), (('life', 0), ['life', 0]), (('f', 0),), (('life', ('life', 0)),), (0, (0, 0))):
            self.fault('shape', -1, PROGRAM, (START, (), items))

    def test_form_alone(self):
        # Names and numbers that the program does not have are of the right shape.
        self.fault('stack', 0, PROGRAM, ((('zz', 10 ** 59),), (('yy', (7, ('life', 9))),), (10 ** 59,)))


class StackTest(PackedCheckerTest):

    def test_spots_that_the_program_does_not_have(self):
        self.fault('stack', 0, PROGRAM, ((('main', 3),), (), ()))
        self.fault('stack', 0, PROGRAM, ((('h', 0),), (), ()))
        self.fault('stack', 1, PROGRAM, ((('main', 0), ('f', 2)), (), ()))
        self.fault('stack', 2, PROGRAM, ((('main', 0), ('f', 1), ('g', 1), ('zz', 0)), (), ()))

    def test_frames_that_are_not_called(self):
        self.fault('stack', 1, PROGRAM, ((('main', 0), ('g', 0)), (), ()))
        self.fault('stack', 1, PROGRAM, ((('main', 1), ('f', 0)), (), ()))
        self.fault('stack', 2, PROGRAM, ((('main', 0), ('f', 0), ('g', 0)), (), ()))
        self.fault('stack', 1, PROGRAM, ((('f', 0), ('f', 0)), (), ()))
        self.gives(0, lets_packed, PROGRAM, ((('f', 1), ('g', 0)), (), ()))
        self.gives(0, lets_packed, PROGRAM, ((('main', 0), ('f', 0)), (), ()))
        self.gives(0, lets_packed, AGAIN, ((('again', 0),) * 6, (), ()))

    def test_the_first_one(self):
        self.fault('stack', 0, PROGRAM, ((('zz', 0), ('f', 9)), (('zz', (9,)),), (9,)))
        self.fault('stack', 1, PROGRAM, ((('main', 0), ('g', 0)), (('zz', (9,)),), (9,)))


class LivesTest(PackedCheckerTest):

    def test_name(self):
        self.fault('name', 0, PROGRAM, (START, (('zz', (0, 0)),), ()))
        self.fault('name', 2, PROGRAM, (START, LIVES + (('zz', (9,)),), (9,)))

    def test_item(self):
        self.item((0, 0), PROGRAM, (START, (('g', (1, 0)),), ()))
        self.item((0, 1), PROGRAM, (START, (('g', (0, 1)),), ()))
        self.item((1, 2), PROGRAM, (START, LIVES[:1] + (('f', (0, 0, 2)),), ()))

    def test_behind_the_end_of_the_frame(self):
        self.item((0, 2), PROGRAM, (START, (('g', (0, 0, 0)),), ()))
        self.item((1, 2), PROGRAM, (START, LIVES[:1] + (('f', (0, 1, 0)),), ()))
        self.item((1, 2), PROGRAM, (START, LIVES[:1] + (('g', (0, 0, LIFE)),), ()))

    def test_open(self):
        self.fault('open', 0, PROGRAM, (START, (('g', (0,)),), ()))
        self.fault('open', 0, PROGRAM, (START, (('g', ()),), ()))
        self.fault('open', 1, PROGRAM, (START, LIVES[:1] + (('f', (0, 0, 1, LIFE)),), ()))
        self.fault('open', 1, PROGRAM, (START, LIVES[:1] + (('f', (0, 0, 1)),), ()))
        self.fault('open', 0, STUCK, ((('begins', 0),), (('loops', (0, 0) * 100),), ()))

    def test_own_and_later_lives(self):
        again = (('again', (0, 0, 0, 0)),)
        self.item((0, 1), AGAIN, ((('again', 0),), (('again', (1, ('life', 0), 0, 0, 0)),), ()))
        self.item((1, 1), AGAIN, ((('again', 0),), again + (('again', (1, ('life', 1), 0, 0, 0)),), ()))
        self.item((1, 1), AGAIN, ((('again', 0),), again + (('again', (1, ('life', 2), 0, 0, 0)),) + again, ()))
        self.gives(0, lets_packed, AGAIN, ((('again', 0),), again + (('again', (1, ('life', 0), 0, 0, 0)),) + again, ()))

    def test_wrong_function(self):
        self.item((1, 1), PROGRAM, (START, LIVES[:1] + (('main', (0, LIFE)),), ()))
        self.item((2, 1), PROGRAM, (START, LIVES + (('main', (0, LIFE)),), ()))

    def test_the_first_fault(self):
        # Life by life, and in each of them name, item, open.
        self.item((0, 1), PROGRAM, (START, (('g', (0, 1)), ('zz', ())), (9,)))
        self.fault('open', 0, PROGRAM, (START, (('g', (0,)), ('zz', ()), ('g', (1,))), (9,)))
        self.fault('name', 1, PROGRAM, (START, (('g', (0, 0)), ('zz', (9,)), ('g', (1,))), (9,)))
        self.item((0, 0), PROGRAM, (START, (('g', (7, 8)),), ()))


class ItemsTest(PackedCheckerTest):

    def test_choices_that_cannot_be_made(self):
        self.item((-1, 0), PROGRAM, (START, (), (1,)))
        self.item((-1, 2), PROGRAM, (START, (), (0, 0, 2)))
        self.item((-1, 10), PROGRAM, (START, (), RUN + (0,)))
        self.item((-1, 0), PROGRAM, (START, (), (10 ** 59,)))

    def test_behind_the_end_of_the_lowest_frame(self):
        self.item((-1, 2), PROGRAM, ((('g', 0),), (), (0, 0, 0)))
        self.item((-1, 2), PROGRAM, ((('g', 0),), LIVES, (0, 0, LIFE)))
        # The frames below are none of its frames: f alone has ended by its fault.
        self.item((-1, 2), PROGRAM, ((('f', 0),), (), (0, 1, 0)))
        self.gives(2, lets_packed, PROGRAM, ((('main', 0), ('f', 0)), (), (0, 1, 1)))

    def test_a_life_stands_right_behind_its_call(self):
        self.item((-1, 0), PROGRAM, (START, LIVES, (LIFE,)))
        self.item((-1, 0), PROGRAM, ((('main', 0), ('f', 0)), LIVES, (('life', 1),)))
        self.item((-1, 2), PROGRAM, (START, LIVES, (0, ('life', 1), LIFE)))
        self.item((-1, 2), PROGRAM, (START, LIVES, (0, ('life', 1), ('life', 1))))
        self.item((-1, 2), PROGRAM, (START, LIVES, (0, 0, ('life', 1))))
        self.item((-1, 3), PROGRAM, (START, LIVES, (0, 0, 0, ('life', 1))))
        self.item((-1, 3), PROGRAM, (START, LIVES, (0, 0, 0, LIFE)))

    def test_an_arrival_at_line_0_that_is_no_call(self):
        # The line leads back to itself by its way 0: no frame begins by this.
        own = (('main', ((('', 'main'), (0, BACK), ()),)),)
        lives = (('main', (0, 1)),)
        self.item((-1, 2), own, (START, lives, (0, 0, LIFE)))
        self.gives(1, lets_packed, own, (START, lives, (1, LIFE)))
        self.gives(2, lets_packed, own, (START, lives, (0, 0, 1, LIFE)))
        # A fault that is handled at line 0 is no call either.
        held = (('main', ((('', 'main'), (BACK, ('fail', 'x')), (('x', 0),)),)),)
        self.item((-1, 2), held, (START, (('main', (0, 0)),), (0, 1, LIFE)))

    def test_a_call_of_nothing(self):
        self.item((-1, 1), AGAIN, ((('again', 0),), (('again', (0, 0, 0, 0)),), (0, LIFE)))

    def test_wrong_function(self):
        self.item((-1, 1), PROGRAM, (START, LIVES, (0, LIFE)))
        self.item((-1, 4), PROGRAM, (START, LIVES, (0, 0, 0, 1, ('life', 1))))

    def test_lives_that_do_not_exist(self):
        self.item((-1, 1), PROGRAM, (START, (), (0, LIFE)))
        self.item((-1, 1), PROGRAM, (START, LIVES, (0, ('life', 2))))
        self.item((-1, 1), PROGRAM, (START, LIVES, (0, ('life', 10 ** 59))))

    def test_an_open_frame_of_the_items(self):
        self.gives(3, lets_packed, PROGRAM, (START, LIVES, (0, 0, 0, 1)))

    def test_every_change_of_one_item(self):
        # A choice too great at any place is told just there.
        for seed in range(40):
            program = random_program(seed)
            run = random_run(program, seed, 20)
            for at in range(len(run) + 1):
                options = machine_behind(program, run[:at]).options()
                frames = Machine(program).frames()
                self.item((-1, at), program, (frames, (), run[:at] + (options,) + run[at:]))


if __name__ == '__main__':
    unittest.main()
