import unittest
from random import Random

from outandover.errors import InvalidPaper, NotUsable
from outandover.packedchecker import lets_packed
from outandover.planchecker import lets_plan
from outandover.planpapers import plan_paper
from outandover.plans import is_right, least_plan, plan_fault
from outandover.programparts import spots_of
from outandover.tablechecker import lets_table
from outandover.tables import least_table
from checks import Checks
from oracle import Halts, machine_behind, packed_by_chance
from samples import (
    AGAIN, BACK, DEEP, F, G, MAIN, PROGRAM, SAMPLES, STUCK, TWICE, anything, cuts_of, nested, random_frames,
    random_program,
)

COMMANDS = ('step', 'next', 'out')
IN_F = (('main', 0), ('f', 0))
HERE = (('again', 0),)
TABLE = least_table(PROGRAM)
LIFE = ('life', 0)
RIGHT = ((('main', 1), -1), (('main', 2), -1))


def fault_of(checker, program, thing, **more):
    try:
        checker(program, thing, **more)
    except InvalidPaper as error:
        return (error.word, error.at)
    return None


def cases(many):
    """A program, frames, a command, a plan and breakpoints, by chance."""
    programs = SAMPLES + (DEEP,) + tuple([random_program(seed) for seed in range(40)])
    for seed in range(many):
        chance = Random(seed)
        program = programs[seed % len(programs)]
        frames, command = random_frames(program, chance, 4), chance.choice(COMMANDS)
        breaks = chance.choice(cuts_of(program) + [()])
        plan = set(least_plan(program, frames, command, breaks=breaks))
        for _ in range(chance.randint(0, 2)):
            spot = chance.choice(spots_of(program) + (('zz', 0),))
            plan ^= {(spot, chance.randint(-1, len(frames) - 1))}
        yield chance, program, frames, command, tuple(sorted(plan)), breaks


class PaperTest(Checks):

    def test_each_paper_is_accepted(self):
        met = {}
        for _, program, frames, command, plan, breaks in cases(500):
            paper = plan_paper(program, frames, command, plan, breaks=breaks)
            right = is_right(program, frames, command, plan, breaks=breaks)
            self.assertEqual((paper[0] == 'right', len(paper)), (right, 2))
            self.gives(right, lets_plan, program, frames, command, plan, paper, breaks=breaks)
            met[paper[0]] = met.get(paper[0], 0) + 1
        self.assertEqual(sorted(met), ['early', 'misses', 'right'])
        self.assertGreater(min(met.values()), 20)

    def test_ordinary(self):
        self.gives(('right', TABLE), plan_paper, PROGRAM, IN_F, 'out', RIGHT)
        self.gives(('right', least_table(PROGRAM, cut=(('g', 0),))), plan_paper, program=PROGRAM, frames=IN_F,
                   command='out', plan=((('g', 0), -1),) + RIGHT, breaks=(('g', 0),))
        self.gives(('early', (HERE, (), (1, 0, 0))), plan_paper, AGAIN, HERE, 'next', ((('again', 1), -1),))
        self.gives(True, lets_plan, program=PROGRAM, frames=IN_F, command='out', plan=RIGHT, thing=('right', TABLE),
                   breaks=())

    def test_breaks_stand_behind_a_star(self):
        with self.assertRaises(TypeError):
            plan_paper(PROGRAM, IN_F, 'out', RIGHT, ())
        with self.assertRaises(TypeError):
            lets_plan(PROGRAM, IN_F, 'out', RIGHT, ('right', TABLE), ())

    def test_wrong_frames_and_commands(self):
        for thing in anything() + [('g', 1), ('f', True), ('h', 0), ['f', 0]]:
            if repr(thing) not in [repr(spot) for spot in spots_of(PROGRAM)]:
                self.raises(NotUsable, ('frames', 0), plan_paper, PROGRAM, (thing,), 'go', ())
                self.raises(NotUsable, ('frames', 1), lets_plan, PROGRAM, (('main', 0), thing), 'go', (), None)
        for thing in anything() + ['go', 'Out', '', True]:
            if not isinstance(thing, str) or thing not in COMMANDS:
                self.raises(NotUsable, ('command', 0), plan_paper, PROGRAM, IN_F, thing, ())
                self.raises(NotUsable, ('command', 0), lets_plan, PROGRAM, IN_F, thing, RIGHT, None)
                self.raises(NotUsable, ('frames', 1), lets_plan, PROGRAM, (('main', 1), ('f', 0)), thing, (), None)

    def test_shape(self):
        for thing in anything() + [('right',), ('right', TABLE, 0), ['right', TABLE], ('Right', TABLE), ('safe', TABLE),
                                   ('most', ()), (True, TABLE), (TABLE, 'right'), nested(29, ('early', 0)), ('', ()),
                                   ('misses',), ('early', (), ())]:
            self.raises(InvalidPaper, ('shape', -1), lets_plan, PROGRAM, IN_F, 'out', RIGHT, thing)
            self.raises(InvalidPaper, ('shape', -1), lets_plan, PROGRAM, IN_F, 'out', (), thing, breaks=(('f', 0),))


class RightTest(Checks):

    def test_the_errors_of_lets_table(self):
        things = anything() + [TABLE[:2], TABLE[::-1], (('f', (1,), (), ()),) + TABLE[1:], list(TABLE),
                               (('f', (0,), (), (('f', 0),)),) + TABLE[1:]]
        for thing in things:
            for breaks in ((), (('f', 0),), (('g', 0),)):
                fields = fault_of(lets_table, PROGRAM, thing, cut=breaks)
                if fields is not None:
                    self.raises(InvalidPaper, fields, lets_plan, PROGRAM, IN_F, 'out', RIGHT, ('right', thing),
                                breaks=breaks)

    def test_the_table_is_cut_at_the_breakpoints(self):
        cut = (('f', 1),)
        table = least_table(PROGRAM, cut=cut)
        plan = ((('f', 1), -1), (('main', 2), -1))
        self.gives(True, lets_plan, PROGRAM, IN_F, 'out', plan, ('right', table), breaks=cut)
        self.raises(InvalidPaper, fault_of(lets_table, PROGRAM, table), lets_plan, PROGRAM, IN_F, 'out', plan,
                    ('right', table))
        # A table that is closed without cuts is closed with them.
        self.gives(True, lets_plan, PROGRAM, IN_F, 'out', plan, ('right', TABLE), breaks=cut)

    def test_misses_ahead_of_early(self):
        paper = ('right', TABLE)
        self.raises(InvalidPaper, ('misses', ('main', 1)), lets_plan, PROGRAM, IN_F, 'out', (), paper)
        self.raises(InvalidPaper, ('misses', ('main', 2)), lets_plan, PROGRAM, IN_F, 'out', RIGHT[:1], paper)
        self.raises(InvalidPaper, ('early', ('f', 1)), lets_plan, PROGRAM, IN_F, 'out',
                    ((('f', 1), -1), (('g', 0), -1)) + RIGHT, paper)
        self.raises(InvalidPaper, ('misses', ('main', 2)), lets_plan, PROGRAM, IN_F, 'out',
                    ((('f', 1), -1),) + RIGHT[:1], paper)
        self.raises(InvalidPaper, ('early', ('g', 0)), lets_plan, PROGRAM, IN_F, 'out', ((('g', 0), -1),) + RIGHT, paper)

    def test_looks(self):
        paper = ('right', TABLE)
        self.gives(True, lets_plan, PROGRAM, IN_F, 'out', ((('f', 1), 0), (('main', 1), 0), (('main', 2), -1)), paper)
        self.raises(InvalidPaper, ('misses', ('main', 1)), lets_plan, PROGRAM, IN_F, 'out',
                    ((('main', 1), 1), (('main', 2), -1)), paper)
        self.raises(InvalidPaper, ('early', ('f', 1)), lets_plan, PROGRAM, IN_F, 'out', ((('f', 1), 1),) + RIGHT, paper)

    def test_frames_above_by_the_rows(self):
        # By this table calls of g touch main 1 and a spot that the program does not have.
        rows = {row[0]: list(row) for row in TABLE}
        for name in rows:
            rows[name][3] = tuple(sorted({*rows[name][3], ('main', 1), ('zz', 0)}))
        table = tuple([tuple(rows[name]) for name in sorted(rows)])
        self.assertEqual(lets_table(PROGRAM, table), 7)
        paper = ('right', table)
        self.raises(InvalidPaper, ('early', ('main', 1)), lets_plan, PROGRAM, IN_F, 'out', RIGHT, paper)
        with_looks = ((('main', 1), 0), (('main', 2), 0))
        self.gives(True, lets_plan, PROGRAM, IN_F, 'out', with_looks, paper)
        self.raises(InvalidPaper, ('early', ('zz', 0)), lets_plan, PROGRAM, IN_F, 'out',
                    with_looks + ((('zz', 0), -1),), paper)
        self.gives(True, lets_plan, PROGRAM, IN_F, 'out', with_looks + ((('zz', 0), 1),), paper)
        # As a breakpoint it would be halted at.
        self.raises(InvalidPaper, ('misses', ('zz', 0)), lets_plan, PROGRAM, IN_F, 'out', with_looks, paper,
                    breaks=(('zz', 0),))
        self.gives(True, lets_plan, PROGRAM, IN_F, 'out', with_looks + ((('zz', 0), -1),), paper, breaks=(('zz', 0),))
        self.raises(InvalidPaper, ('misses', ('main', 1)), lets_plan, PROGRAM, IN_F, 'out', with_looks, paper,
                    breaks=(('main', 1),))
        # For "step", and for "next" at a line without calls, nothing goes by these rows.
        self.gives(True, lets_plan, PROGRAM, IN_F, 'next', ((('f', 1), -1), (('main', 2), -1)), paper)
        self.gives(True, lets_plan, PROGRAM, (('main', 0), ('f', 1)), 'step', ((('g', 0), -1), (('main', 1), -1)), paper)

    def test_ends_of_calls_by_the_rows(self):
        # By this table g fails with x as well, so that the line that calls it is left so.
        rows = {row[0]: list(row) for row in TABLE}
        rows['g'][2] = (BACK, ('fail', 'x'))
        rows['f'][2] = (BACK, ('fail', 'bad'), ('fail', 'x'))
        rows['main'][2] = (BACK, ('fail', 'x'))
        table = tuple([tuple(rows[name]) for name in sorted(rows)])
        self.assertEqual(lets_table(PROGRAM, table), 6)
        frames = (('main', 0), ('f', 1))
        self.gives(True, lets_plan, PROGRAM, frames, 'next', ((('main', 1), 0),), ('right', TABLE))
        self.raises(InvalidPaper, ('misses', ('main', 2)), lets_plan, PROGRAM, frames, 'next', ((('main', 1), 0),),
                    ('right', table))
        # "step" takes no whole call, so that it goes by the lines alone.
        self.gives(True, lets_plan, PROGRAM, frames, 'step', ((('g', 0), -1), (('main', 1), 0)), ('right', table))

    def test_the_own_lines_by_the_lines_of_the_frames(self):
        # The row of f has both of its lines; from its line 1 the frame comes to none of them.
        frames = (('main', 0), ('f', 1))
        plan = ((('f', 0), -1), (('f', 1), -1), (('main', 1), -1))
        self.gives(True, lets_plan, PROGRAM, frames, 'out', plan, ('right', TABLE))
        more = with_row(PROGRAM, 'g', 3, (('f', 1), ('g', 0)))
        self.raises(InvalidPaper, ('early', ('f', 1)), lets_plan, PROGRAM, frames, 'out', plan, ('right', more))

    def test_more_plants_than_needed(self):
        self.gives(True, lets_plan, PROGRAM, IN_F, 'out', ((('main', 0), -1),) + RIGHT + ((('zz', 3), 0),),
                   ('right', TABLE))
        self.gives(True, lets_plan, STUCK, (('begins', 0), ('loops', 0)), 'out', (), ('right', least_table(STUCK)))

    def test_what_is_right_by_a_table_is_right(self):
        met = {True: 0, False: 0}
        for _, program, frames, command, plan, breaks in cases(400):
            paper = ('right', least_table(program, cut=breaks))
            right = is_right(program, frames, command, plan, breaks=breaks)
            met[right] += 1
            if right:
                self.gives(True, lets_plan, program, frames, command, plan, paper, breaks=breaks)
                continue
            told = Halts(program, frames, command, breaks, most=80)
            misses = sorted([spot for spot, depth in told.halts if not hit(plan, spot, depth)])
            early = sorted([spot for spot, depth in told.passed if hit(plan, spot, depth)])
            if told.is_all:
                fields = ('misses', misses[0]) if misses else ('early', early[0])
                self.raises(InvalidPaper, fields, lets_plan, program, frames, command, plan, paper, breaks=breaks)
        self.assertGreater(min(met.values()), 30)


def hit(plan, spot, depth):
    return (spot, -1) in plan or (spot, depth) in plan


def with_row(program, name, part, worth):
    """The least table with another part of the row of one function, and what is touched so in all that call it."""
    rows = {row[0]: list(row) for row in least_table(program)}
    rows[name][part] = worth
    for other in rows:
        if set(dict([(row[0], row[3]) for row in least_table(program)])[other]) & {(name, 0)}:
            rows[other][3] = tuple(sorted({*rows[other][3], *worth}))
    return tuple([tuple(rows[other]) for other in sorted(rows)])


class FaultTest(Checks):

    def test_of_the_document(self):
        early = ('early', (HERE, (), (1, 0, 0)))
        self.gives(False, lets_plan, AGAIN, HERE, 'next', ((('again', 1), -1),), early)
        self.raises(InvalidPaper, ('last', -1), lets_plan, AGAIN, HERE, 'next', ((('again', 1), 0),), early)

    def test_the_errors_of_lets_packed(self):
        things = anything() + [(IN_F, (('g', (0,)),), ()), (IN_F, (('h', ()),), ()), (IN_F, (), (7,)),
                               ((('f', 2),), (), ()), (IN_F, (), [0])]
        for thing in things:
            fields = fault_of(lets_packed, PROGRAM, thing)
            self.assertIsNotNone(fields)
            for word in ('misses', 'early'):
                self.raises(InvalidPaper, fields, lets_plan, PROGRAM, IN_F, 'out', (), (word, thing))

    def test_frames(self):
        for frames in ((('f', 0),), (('main', 0),), (('main', 0), ('f', 1)), IN_F[::-1][:1]):
            for word in ('misses', 'early'):
                self.raises(InvalidPaper, ('frames', -1), lets_plan, PROGRAM, IN_F, 'out', (), (word, (frames, (), ())))

    def test_arrival(self):
        for items in ((), (0,), (0, 0, 0), (0, 0, 0, 0), (0, 1, 0), (0, 1, 0, 0), (0, 0, 1, 0)):
            self.raises(InvalidPaper, ('arrival', -1), lets_plan, PROGRAM, IN_F, 'out', (), ('misses', (IN_F, (), items)))

    def test_before(self):
        # At main 2 the command has halted.
        over = (IN_F, (), (0, 0, 0, 0, 0, 0, 1))
        self.raises(InvalidPaper, ('before', -1), lets_plan, PROGRAM, IN_F, 'out', (), ('misses', over))
        self.raises(InvalidPaper, ('before', -1), lets_plan, PROGRAM, IN_F, 'out', RIGHT, ('misses', over))
        # A plant is hit at f 1.
        one = (IN_F, (), (0, 0, 0, 0, 0))
        self.gives(False, lets_plan, PROGRAM, IN_F, 'out', (), ('misses', one))
        for look in (-1, 1):
            self.raises(InvalidPaper, ('before', -1), lets_plan, PROGRAM, IN_F, 'out', ((('f', 1), look),),
                        ('misses', one))
        self.gives(False, lets_plan, PROGRAM, IN_F, 'out', ((('f', 1), 0),), ('misses', one))
        # A breakpoint there, or a command that lands there.
        self.raises(InvalidPaper, ('before', -1), lets_plan, PROGRAM, IN_F, 'out', (), ('misses', one),
                    breaks=(('f', 1),))
        for command in ('next', 'step'):
            self.raises(InvalidPaper, ('before', -1), lets_plan, PROGRAM, IN_F, command, (), ('misses', one))
        # The arrival at which the command is given does not count.
        self.gives(False, lets_plan, PROGRAM, IN_F, 'out', ((('f', 0), -1),), ('misses', one), breaks=(('f', 0),))

    def test_before_inside_a_life(self):
        lives = (('g', (0, 0)),)
        packed = (IN_F, lives, (0, 0, 1, LIFE, 0, 0))
        self.gives(False, lets_plan, PROGRAM, IN_F, 'out', (), ('misses', packed))
        self.raises(InvalidPaper, ('before', -1), lets_plan, PROGRAM, IN_F, 'out', ((('g', 0), -1),), ('misses', packed))
        self.raises(InvalidPaper, ('before', -1), lets_plan, PROGRAM, IN_F, 'out', (), ('misses', packed),
                    breaks=(('g', 0),))
        inner = (('twice', (0, 0, 0, 0)), ('twice', (1, LIFE, 0, 0, 0)))
        frames = (('twice', 0),)
        packed = (frames, inner, (1, ('life', 1), 0))
        self.gives(False, lets_plan, TWICE, frames, 'next', (), ('misses', packed))
        for plan, breaks in ((((('twice', 1), -1),), ()), ((), (('twice', 1),)), (((('twice', 0), -1),), ())):
            self.raises(InvalidPaper, ('before', -1), lets_plan, TWICE, frames, 'next', plan, ('misses', packed),
                        breaks=breaks)
        # A look at a frame below does not see them.
        self.raises(InvalidPaper, ('last', -1), lets_plan, TWICE, frames, 'next', ((('twice', 1), 0),),
                    ('misses', packed))
        self.gives(False, lets_plan, TWICE, frames, 'next', ((('twice', 0), 0),), ('misses', packed))

    def test_hits_inside_lives_beside_own_arrivals(self):
        # The command is given at a breakpoint, to which the call comes back; another one is hit inside the call.
        program = (('f', ((('g',), (1,), (('', 1),)), (('',), (BACK,), ()))),
                   ('g', ((('',), (1,), ()), (('',), (BACK, ('fail', 'x')), ()))))
        frames, breaks = (('f', 0),), (('f', 0), ('g', 1))
        packed = (frames, (('g', (0, 0, 0, 0)),), (0, LIFE, 0))
        self.raises(InvalidPaper, ('before', -1), lets_plan, program, frames, 'next', (), ('misses', packed),
                    breaks=breaks)
        self.gives(False, lets_plan, program, frames, 'next', (), ('misses', packed), breaks=(('f', 0),))
        # The last item is the life itself, which is left by a fault.
        packed = (frames, (('g', (0, 0, 0, 1)),), (0, LIFE))
        self.raises(InvalidPaper, ('before', -1), lets_plan, program, frames, 'next', (), ('misses', packed),
                    breaks=breaks)
        self.gives(False, lets_plan, program, frames, 'next', (), ('misses', packed), breaks=(('f', 0),))
        self.gives(False, lets_plan, program, frames, 'next', (), ('misses', packed), breaks=(('f', 0), ('f', 1)))
        self.raises(InvalidPaper, ('last', -1), lets_plan, program, frames, 'next', ((('f', 1), -1),),
                    ('misses', packed))

    def test_a_fault_that_a_life_leaves(self):
        program = (('f', ((('g',), (0,), (('', 1),)), (('',), (BACK,), ()))),
                   ('g', ((('',), (0, ('fail', 'x')), ()),)))
        frames = (('f', 0),)
        packed = (frames, (('g', (0, 0, 0, 1)),), (0, LIFE))
        self.gives(False, lets_plan, program, frames, 'next', (), ('misses', packed))
        self.raises(InvalidPaper, ('before', -1), lets_plan, program, frames, 'next', ((('g', 0), -1),),
                    ('misses', packed))
        self.raises(InvalidPaper, ('last', -1), lets_plan, program, frames, 'next', ((('f', 1), 0),), ('misses', packed))

    def test_last(self):
        one = (IN_F, (), (0, 0, 0, 0, 0))
        self.raises(InvalidPaper, ('last', -1), lets_plan, PROGRAM, IN_F, 'out', (), ('early', one))
        self.raises(InvalidPaper, ('last', -1), lets_plan, PROGRAM, IN_F, 'out', RIGHT, ('misses', one))
        self.raises(InvalidPaper, ('last', -1), lets_plan, PROGRAM, IN_F, 'out', RIGHT, ('early', one))
        way = (IN_F, (), (0, 0))
        self.raises(InvalidPaper, ('last', -1), lets_plan, PROGRAM, IN_F, 'out', RIGHT, ('early', way))
        self.raises(InvalidPaper, ('last', -1), lets_plan, PROGRAM, IN_F, 'out', (), ('misses', way))
        self.gives(False, lets_plan, PROGRAM, IN_F, 'out', ((('f', 1), 1),), ('early', way))
        self.raises(InvalidPaper, ('last', -1), lets_plan, PROGRAM, IN_F, 'out', ((('f', 1), 1),), ('misses', way))
        self.gives(False, lets_plan, PROGRAM, IN_F, 'next', (), ('misses', way))

    def test_two_faults_at_once(self):
        self.raises(InvalidPaper, ('frames', -1), lets_plan, PROGRAM, IN_F, 'out', (), ('early', ((('f', 0),), (), (0,))))
        self.raises(InvalidPaper, ('arrival', -1), lets_plan, PROGRAM, IN_F, 'step', (), ('early', (IN_F, (), (0, 0, 0))))
        self.raises(InvalidPaper, ('before', -1), lets_plan, PROGRAM, IN_F, 'step', (),
                    ('early', (IN_F, (), (0, 0, 0, 0, 0))))

    def test_any_rest(self):
        met = {}
        for chance, program, frames, command, plan, breaks in cases(1200):
            machine, choices = machine_behind(program, (), frames), []
            told = Halts(program, frames, command, breaks, plan, most=1)
            word, many = chance.choice(['misses', 'early']), chance.randint(1, 12)
            while machine.options() and len(choices) < many:
                choices.append(chance.randrange(machine.options()))
                machine.choose(choices[-1])
                if len(machine.arrivals) > 1 and chance.random() < 0.5 and not told.goes_on(machine.frames() or frames):
                    # Often the word that fits, where the first halt or hit is.
                    word = 'misses' if told.halts_at(*machine.arrivals[-1][::-1]) else 'early'
                    break
            packed = packed_by_chance(program, choices, chance, frames)
            fields = fault_by_rules(program, frames, command, plan, breaks, word, choices)
            met[fields] = met.get(fields, 0) + 1
            if fields is None:
                self.gives(False, lets_plan, program, frames, command, plan, (word, packed), breaks=breaks)
                self.assertIsNotNone(plan_fault(program, frames, command, plan, breaks=breaks))
            else:
                self.raises(InvalidPaper, fields, lets_plan, program, frames, command, plan, (word, packed),
                            breaks=breaks)
        self.assertEqual(len(met), 4)
        self.assertGreater(min(met.values()), 20)


def fault_by_rules(program, frames, command, plan, breaks, word, choices):
    """The first fault of a paper of this word, for a rest that is written out."""
    machine = machine_behind(program, choices, frames)
    told = Halts(program, frames, command, breaks, plan, most=1)
    arrivals = [(spot, depth) for depth, spot in machine.arrivals[1:]]
    if not choices or not machine.stack or machine.behind:
        return ('arrival', -1)
    for arrival in arrivals[:-1]:
        if told.halts_at(*arrival) or told.is_hit(*arrival):
            return ('before', -1)
    halts, is_hit = told.halts_at(*arrivals[-1]), told.is_hit(*arrivals[-1])
    return None if (halts, is_hit) == (word == 'misses', word == 'early') else ('last', -1)


class ConsequencesTest(Checks):

    def test_a_line_more(self):
        main = (MAIN[0], MAIN[1] + ((('',), (BACK,), ()),))
        self.gives(True, lets_plan, (main, F, G), IN_F, 'out', RIGHT, ('right', least_table((main, F, G))))


if __name__ == '__main__':
    unittest.main()
