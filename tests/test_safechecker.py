import unittest
from random import Random

from outandover.errors import InvalidPaper, NotUsable
from outandover.packedchecker import lets_packed
from outandover.programparts import spots_of
from outandover.safechecker import lets_safe
from outandover.safepapers import safe_paper
from outandover.safety import is_safe, unsafe_rest
from outandover.tablechecker import lets_table
from outandover.tables import least_table
from checks import Checks
from oracle import lands, machine_behind, packed_by_chance
from samples import AGAIN, BACK, DEEP, PROGRAM, SAMPLES, STUCK, TWICE, anything, nested, random_program

W = (('g', 0),)
COMMANDS = ('step', 'next', 'out')
TABLE = least_table(PROGRAM)
FROM_F = (('f', 0),)
LIFE = ('life', 0)


def programs():
    return SAMPLES + (DEEP,) + tuple([random_program(seed) for seed in range(40)])


def fault_of(checker, program, thing):
    try:
        checker(program, thing)
    except InvalidPaper as error:
        return (error.word, error.at)
    return None


class PaperTest(Checks):

    def test_each_paper_is_accepted(self):
        for seed, program in enumerate(programs()):
            spots = spots_of(program)
            for wished in ((), spots, (spots[seed % len(spots)],), (spots[0], ('zz', 3))):
                for spot in spots:
                    for command in COMMANDS:
                        safe = is_safe(program, wished, spot, command)
                        paper = safe_paper(program, wished, spot, command)
                        self.assertEqual((paper[0], len(paper)), ('safe' if safe else 'unsafe', 2))
                        self.gives(safe, lets_safe, program, wished, spot, command, paper)

    def test_ordinary(self):
        self.gives(('safe', TABLE), safe_paper, PROGRAM, W, ('f', 0), 'next')
        self.gives(('unsafe', ((('f', 1),), (), (1,))), safe_paper, program=PROGRAM, wished=W, spot=('f', 1),
                   command='out')
        self.gives(True, lets_safe, program=PROGRAM, wished=W, spot=('f', 0), command='next', thing=('safe', TABLE))

    def test_wrong_spots_and_commands(self):
        paper = ('safe', TABLE)
        for thing in anything() + [('g', 1), ('g', False), ('h', 0), ['f', 0], ('main', 3)]:
            if repr(thing) not in [repr(spot) for spot in spots_of(PROGRAM)]:
                self.raises(NotUsable, ('spot', thing), safe_paper, PROGRAM, W, thing, 'go')
                self.raises(NotUsable, ('spot', thing), lets_safe, PROGRAM, W, thing, 'go', None)
        for thing in anything() + ['go', 'Step', '', ('step',), True]:
            if not isinstance(thing, str) or thing not in COMMANDS:
                self.raises(NotUsable, ('command', 0), safe_paper, PROGRAM, W, ('f', 0), thing)
                self.raises(NotUsable, ('command', 0), lets_safe, PROGRAM, W, ('f', 0), thing, paper)
                self.raises(NotUsable, ('command', 0), lets_safe, PROGRAM, W, ('f', 0), thing, None)

    def test_shape(self):
        for thing in anything() + [('safe',), ('safe', TABLE, 0), ['safe', TABLE], ('Safe', TABLE), ('never', TABLE),
                                   ('run', ()), (True, TABLE), (TABLE, 'safe'), nested(29, ('safe', 0)), ('', TABLE)]:
            for command in COMMANDS:
                self.raises(InvalidPaper, ('shape', -1), lets_safe, PROGRAM, W, ('f', 0), command, thing)


class SafeTest(Checks):

    def test_the_errors_of_lets_table(self):
        things = anything() + [TABLE[:2], TABLE[::-1], (('f', (1,), (), ()),) + TABLE[1:], list(TABLE),
                               (('f', (0,), (), (('f', 0),)),) + TABLE[1:]]
        for thing in things:
            fields = fault_of(lets_table, PROGRAM, thing)
            self.assertIsNotNone(fields)
            for command in COMMANDS:
                self.raises(InvalidPaper, fields, lets_safe, PROGRAM, W, ('f', 0), command, ('safe', thing))

    def test_step(self):
        for spot in spots_of(PROGRAM):
            self.gives(True, lets_safe, PROGRAM, spots_of(PROGRAM), spot, 'step', ('safe', TABLE))

    def test_the_first_wished_spot(self):
        paper = ('safe', TABLE)
        all_spots = spots_of(PROGRAM)
        self.raises(InvalidPaper, ('wished', ('g', 0)), lets_safe, PROGRAM, W, ('f', 0), 'out', paper)
        self.raises(InvalidPaper, ('wished', ('f', 0)), lets_safe, PROGRAM, all_spots, ('main', 0), 'next', paper)
        self.raises(InvalidPaper, ('wished', ('f', 1)), lets_safe, PROGRAM, all_spots, ('f', 0), 'out', paper)
        self.raises(InvalidPaper, ('wished', ('main', 1)), lets_safe, PROGRAM, (('main', 1), ('main', 2)), ('main', 0),
                    'out', paper)
        self.raises(InvalidPaper, ('wished', ('g', 0)), lets_safe, PROGRAM, all_spots, ('main', 2), 'out', paper)
        self.gives(True, lets_safe, PROGRAM, (('main', 0), ('main', 1), ('main', 2)), ('main', 2), 'out', paper)
        self.gives(True, lets_safe, PROGRAM, all_spots, ('g', 0), 'out', paper)

    def test_the_own_row_can_touch_more(self):
        # From main 2 the frame does not come back to main 1, though the row of main touches it.
        self.gives(True, lets_safe, PROGRAM, (('f', 0), ('main', 1)), ('main', 2), 'out', ('safe', TABLE))
        self.gives(True, lets_safe, PROGRAM, (('f', 0),), ('f', 0), 'out', ('safe', TABLE))
        self.raises(InvalidPaper, ('wished', ('main', 1)), lets_safe, PROGRAM, (('main', 1),), ('main', 1), 'out',
                    ('safe', TABLE))

    def test_tables_with_more_than_the_least(self):
        rows = {row[0]: list(row) for row in TABLE}
        rows['g'][3] = (('g', 0), ('main', 1), ('zz', 0))
        rows['f'][3] = tuple(sorted(set(rows['f'][3] + rows['g'][3])))
        rows['main'][3] = tuple(sorted(set(rows['main'][3] + rows['g'][3])))
        table = tuple([tuple(rows[name]) for name in sorted(rows)])
        self.assertEqual(lets_table(PROGRAM, table), 7)
        # By this table main 1 can come in a call of g, so that it does not show that "next" is safe.
        self.gives(True, is_safe, PROGRAM, (('main', 1),), ('f', 1), 'next')
        for command in ('next', 'out'):
            self.raises(InvalidPaper, ('wished', ('main', 1)), lets_safe, PROGRAM, (('main', 1),), ('f', 1), command,
                        ('safe', table))
        self.gives(True, lets_safe, PROGRAM, (('main', 1),), ('g', 0), 'out', ('safe', table))
        # A wished spot that the program does not have has no effect, also where the table touches it.
        self.gives(True, lets_safe, PROGRAM, (('zz', 0),), ('main', 0), 'out', ('safe', table))
        self.raises(InvalidPaper, ('wished', ('main', 1)), lets_safe, PROGRAM, (('main', 1), ('zz', 0)), ('main', 2),
                    'out', ('safe', table))

    def test_ends_by_the_rows(self):
        # By this table g fails with x, so that f can come to its handler, whatever g does.
        program = (('f', ((('g',), (1,), (('x', 2),)), (('',), (BACK,), ()), (('',), (BACK,), ()))),
                   ('g', ((('',), (BACK,), ()), (('',), (('fail', 'x'),), ()))))
        least = least_table(program)
        self.gives(True, lets_safe, program, (('f', 2),), ('f', 0), 'out', ('safe', least))
        row = ('f', (0, 1, 2), (BACK,), (('f', 0), ('f', 1), ('f', 2), ('g', 0), ('g', 1)))
        more = (row, ('g', (0,), (BACK, ('fail', 'x')), (('g', 0),)))
        self.assertEqual(lets_table(program, more), 5)
        self.raises(InvalidPaper, ('wished', ('f', 2)), lets_safe, program, (('f', 2),), ('f', 0), 'out', ('safe', more))
        self.gives(True, lets_safe, program, (('f', 2),), ('f', 0), 'next', ('safe', more))
        # g 1 is touched by main's row alone, and by no row of what it calls.
        self.gives(True, lets_safe, program, (('g', 1),), ('f', 0), 'out', ('safe', more))

    def test_cut_tables_are_not_closed(self):
        cut = least_table(PROGRAM, cut=(('f', 1),))
        self.raises(InvalidPaper, fault_of(lets_table, PROGRAM, cut), lets_safe, PROGRAM, W, ('f', 0), 'out',
                    ('safe', cut))


class UnsafeTest(Checks):

    def test_of_the_document(self):
        self.gives(False, lets_safe, PROGRAM, W, ('f', 0), 'out', ('unsafe', (FROM_F, (), (0, 0, 1))))

    def test_the_errors_of_lets_packed(self):
        things = anything() + [(FROM_F, (('g', (0,)),), ()), (FROM_F, (('h', ()),), ()), (FROM_F, (), (7,)),
                               (FROM_F, (), (0, 1, 0)), (FROM_F, (('g', (0, 0, 0)),), ()),
                               ((('f', 2),), (), ()), (FROM_F, (), [0])]
        for thing in things:
            fields = fault_of(lets_packed, PROGRAM, thing)
            self.assertIsNotNone(fields)
            for command in COMMANDS:
                self.raises(InvalidPaper, fields, lets_safe, PROGRAM, W, ('f', 0), command, ('unsafe', thing))

    def test_frames(self):
        for packed in (((('f', 1),), (), (1,)), ((('main', 0), ('f', 0)), (), (0, 0, 1)), ((('g', 0),), (), ()),
                       ((('main', 2),), (), (1,))):
            self.raises(InvalidPaper, ('frames', -1), lets_safe, PROGRAM, W, ('f', 0), 'out', ('unsafe', packed))

    def test_arrival(self):
        for items in ((), (0,), (0, 0), (0, 0, 0), (0, 0, 1, 0), (0, 0, 1, 0, 0), (0, 1)):
            self.raises(InvalidPaper, ('arrival', -1), lets_safe, PROGRAM, W, ('f', 0), 'out',
                        ('unsafe', (FROM_F, (), items)))
        # It stands at a wished spot at its beginning, but has no items.
        self.raises(InvalidPaper, ('arrival', -1), lets_safe, PROGRAM, W, ('g', 0), 'out',
                    ('unsafe', ((('g', 0),), (), ())))
        # A wished spot was arrived at inside a life, but it does not stand there.
        self.raises(InvalidPaper, ('arrival', -1), lets_safe, PROGRAM, W, ('f', 0), 'out',
                    ('unsafe', (FROM_F, (('g', (0, 0)),), (0, 0, 1, LIFE))))

    def test_landed(self):
        self.raises(InvalidPaper, ('landed', -1), lets_safe, PROGRAM, W, ('f', 0), 'next',
                    ('unsafe', (FROM_F, (), (0, 0, 1))))
        self.raises(InvalidPaper, ('landed', -1), lets_safe, PROGRAM, W, ('f', 1), 'step',
                    ('unsafe', ((('f', 1),), (), (1,))))
        self.gives(False, lets_safe, PROGRAM, W, ('f', 1), 'next', ('unsafe', ((('f', 1),), (), (1,))))
        # The last arrival counts, too.
        self.raises(InvalidPaper, ('landed', -1), lets_safe, PROGRAM, (('f', 1),), ('f', 0), 'next',
                    ('unsafe', (FROM_F, (), (0, 0))))
        self.gives(False, lets_safe, PROGRAM, (('f', 1),), ('f', 0), 'out', ('unsafe', (FROM_F, (), (0, 0))))

    def test_what_lands_is_told_behind_the_arrival(self):
        self.raises(InvalidPaper, ('arrival', -1), lets_safe, PROGRAM, (), ('f', 0), 'step',
                    ('unsafe', (FROM_F, (), (0, 0))))
        self.raises(InvalidPaper, ('frames', -1), lets_safe, PROGRAM, (), ('f', 1), 'step',
                    ('unsafe', (FROM_F, (), (0, 0))))

    def test_any_number_of_arrivals(self):
        # A life above, and arrivals at wished spots on the way; the frame itself arrives at the end alone.
        lives = (('twice', (0, 0, 0, 0)), ('twice', (1, LIFE, 0, 0, 0)))
        packed = ((('twice', 0),), lives, (1, ('life', 1), 0, 1))
        self.gives(False, lets_safe, TWICE, (('twice', 0),), ('twice', 0), 'out', ('unsafe', packed))
        self.raises(InvalidPaper, ('landed', -1), lets_safe, TWICE, (('twice', 0),), ('twice', 0), 'next',
                    ('unsafe', packed))
        inside = ((('twice', 0),), lives, (1, 1, ('life', 1), 0))
        self.gives(False, lets_safe, TWICE, (('twice', 1),), ('twice', 0), 'next', ('unsafe', inside))
        self.gives(False, lets_safe, AGAIN, (('again', 0),), ('again', 0), 'next',
                   ('unsafe', ((('again', 0),), (), (1,) * 50)))

    def test_frames_that_never_end(self):
        packed = ((('waits', 0),), (), (0, 0, 0, 0, 0))
        self.gives(False, lets_safe, STUCK, (('loops', 0),), ('waits', 0), 'next', ('unsafe', packed))

    def test_a_fault_that_a_life_leaves(self):
        program = (('f', ((('g',), (0,), (('', 1),)), (('',), (BACK,), ()))), ('g', ((('',), (('fail', 'x'),), ()),)))
        packed = ((('f', 0),), (('g', (0, 0)),), (0, LIFE))
        self.gives(False, lets_safe, program, (('f', 1),), ('f', 0), 'out', ('unsafe', packed))
        self.raises(InvalidPaper, ('landed', -1), lets_safe, program, (('f', 1),), ('f', 0), 'next', ('unsafe', packed))

    def test_any_rest(self):
        met = {True: 0, False: 0}
        known = programs()
        for seed in range(1500):
            program = known[seed % len(known)]
            chance = Random(seed)
            spot = chance.choice(spots_of(program))
            wished = tuple(sorted(chance.sample(spots_of(program), min(3, len(spots_of(program))))))
            machine, choices = machine_behind(program, (), (spot,)), []
            while machine.options() and len(choices) < chance.randint(1, 9):
                choices.append(chance.randrange(machine.options()))
                machine.choose(choices[-1])
            command = chance.choice(COMMANDS)
            packed = packed_by_chance(program, choices, chance, (spot,))
            stands = choices and machine.stack and not machine.behind and machine.frames()[-1] in wished
            landed = [depth for depth, _ in machine.arrivals[1:] if lands(command, depth, 0)]
            met[bool(stands and not landed)] += 1
            paper = ('unsafe', packed)
            if not stands:
                self.raises(InvalidPaper, ('arrival', -1), lets_safe, program, wished, spot, command, paper)
            elif landed:
                self.raises(InvalidPaper, ('landed', -1), lets_safe, program, wished, spot, command, paper)
            else:
                self.gives(False, lets_safe, program, wished, spot, command, paper)
                self.assertIsNotNone(unsafe_rest(program, wished, spot, command))
        self.assertGreater(min(met.values()), 100)


if __name__ == '__main__':
    unittest.main()
