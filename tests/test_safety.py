import unittest
from random import Random

from outandover.errors import NotUsable
from outandover.packedchecker import lets_packed
from outandover.packing import frames_behind
from outandover.programchanges import renamed
from outandover.programparts import spots_of
from outandover.safety import furthest, is_safe, quiet_spots, unsafe_rest
from checks import Checks
from oracle import Levels, lands, machine_behind, written
from samples import AGAIN, BACK, DEEP, F, G, PROGRAM, SAMPLES, STUCK, TWICE, anything, chain, further, random_program

W = (('g', 0),)
COMMANDS = ('step', 'next', 'out')


def programs():
    return SAMPLES + (DEEP,) + tuple([random_program(seed) for seed in range(40)])


def wished_of(program, chance):
    """Some wished spots, also such as the program does not have."""
    spots = list(spots_of(program)) + [('zz', 0), (program[0][0], 11)]
    return tuple(sorted(chance.sample(spots, chance.randint(0, min(3, len(spots))))))


def cases():
    """Pairs of a program and of wished spots of it."""
    for seed, program in enumerate(programs()):
        chance = Random(seed)
        for wished in {(), spots_of(program), (('zz', 0),), wished_of(program, chance), wished_of(program, chance)}:
            yield program, wished


class SafeTest(Checks):

    def test_of_the_document(self):
        found = {spot: furthest(PROGRAM, W, spot) for spot in spots_of(PROGRAM)}
        self.assertEqual(found, {('main', 0): 'step', ('main', 2): 'step', ('f', 1): 'step', ('main', 1): 'next',
                                 ('f', 0): 'next', ('g', 0): 'out'})
        self.gives((('g', 0),), quiet_spots, PROGRAM, W)
        self.gives(False, is_safe, PROGRAM, W, ('f', 0), 'out')
        self.gives(True, is_safe, program=PROGRAM, wished=W, spot=('f', 0), command='next')
        self.gives('step', furthest, program=PROGRAM, wished=W, spot=('f', 1))
        self.gives((('g', 0),), quiet_spots, program=PROGRAM, wished=W)

    def test_none_wished(self):
        for program in programs():
            for wished in ((), (('zz', 0),), ((program[0][0], 12),)):
                self.gives(spots_of(program), quiet_spots, program, wished)
                for spot in spots_of(program):
                    self.gives('out', furthest, program, wished, spot)
                    for command in COMMANDS:
                        self.gives(True, is_safe, program, wished, spot, command)
                        self.gives(None, unsafe_rest, program, wished, spot, command)

    def test_all_wished(self):
        for program in programs():
            wished = spots_of(program)
            for spot in wished:
                calls, ways, _ = dict(program)[spot[0]][spot[1]]
                self.gives(calls == ('',), is_safe, program, wished, spot, 'next')
                self.gives(True, is_safe, program, wished, spot, 'step')

    def test_a_command_may_land_at_a_wished_spot(self):
        # "next" at main 0 calls f and lands at main 1 or main 2.
        self.gives(True, is_safe, PROGRAM, (('main', 1), ('main', 2)), ('main', 0), 'next')
        self.gives(False, is_safe, PROGRAM, (('main', 1), ('main', 2)), ('main', 0), 'out')
        self.gives(True, is_safe, PROGRAM, (('f', 0),), ('main', 0), 'step')
        self.gives(False, is_safe, PROGRAM, (('f', 0),), ('main', 0), 'next')
        # "out" at f 0 lands at lines of main, also at those that are wished.
        self.gives(True, is_safe, PROGRAM, (('main', 1), ('main', 2)), ('f', 0), 'out')

    def test_the_spot_itself(self):
        self.gives(True, is_safe, PROGRAM, (('g', 0),), ('g', 0), 'out')
        self.gives(True, is_safe, AGAIN, (('again', 1),), ('again', 1), 'out')
        self.gives(False, is_safe, AGAIN, (('again', 0),), ('again', 0), 'next')
        self.gives(False, is_safe, PROGRAM, (('main', 1),), ('main', 1), 'out')

    def test_commands_that_never_land(self):
        self.gives(True, is_safe, STUCK, (('waits', 0),), ('loops', 0), 'out')
        self.gives(False, is_safe, STUCK, (('loops', 0),), ('loops', 0), 'out')
        self.gives(True, is_safe, STUCK, (('loops', 0),), ('loops', 0), 'next')
        self.gives(False, is_safe, STUCK, (('loops', 0),), ('waits', 0), 'next')
        # In the first function "out" never lands.
        self.gives(False, is_safe, PROGRAM, (('main', 0),), ('main', 1), 'out')
        self.gives(True, is_safe, PROGRAM, (('main', 0),), ('main', 2), 'out')

    def test_the_first_function_that_calls_itself(self):
        self.gives(False, is_safe, TWICE, (('twice', 1),), ('twice', 0), 'next')
        self.gives(False, is_safe, TWICE, (('twice', 1),), ('twice', 1), 'out')
        self.gives(False, is_safe, TWICE, (('twice', 1),), ('twice', 1), 'next')

    def test_against_all_rests(self):
        met = {True: 0, False: 0}
        for program, wished in cases():
            for spot in spots_of(program):
                levels = Levels(program, (spot,), most=60)
                for command in COMMANDS:
                    least = least_unsafe(levels, wished, command, program, spot)
                    found = is_safe(program, wished, spot, command)
                    if least is not None:
                        self.assertFalse(found)
                        met[False] += 1
                    elif levels.is_all:
                        self.assertTrue(found)
                        met[True] += 1
                    self.assert_rest(program, wished, spot, command, least, levels)
        self.assertGreater(min(met.values()), 150)

    def assert_rest(self, program, wished, spot, command, least, levels):
        packed = unsafe_rest(program, wished, spot, command)
        self.assertEqual(packed is None, is_safe(program, wished, spot, command))
        if packed is None:
            return
        many = lets_packed(program, packed)
        if least is None:
            self.assertFalse(levels.is_all)
        elif least < len(levels.levels) - 1 or levels.is_all:
            self.assertEqual(many, least)
        self.assertGreaterEqual(many, 1)
        self.assertEqual(packed[0], (spot,))
        self.assertIn(frames_behind(program, packed)[-1], wished)
        machine = machine_behind(program, written(packed), (spot,))
        self.assertEqual(machine.arrivals[-1][1], machine.frames()[-1])
        self.assertFalse(machine.behind)
        self.assertFalse([depth for depth, _ in machine.arrivals[1:] if lands(command, depth, 0)])

    def test_safe_is_what_quiet_and_furthest_say(self):
        for program, wished in cases():
            quiet = quiet_spots(program, wished)
            self.assertEqual(quiet, tuple([
                spot for spot in spots_of(program) if is_safe(program, wished, spot, 'out')]))
            for spot in spots_of(program):
                safe = [command for command in COMMANDS if is_safe(program, wished, spot, command)]
                self.assertEqual(furthest(program, wished, spot), safe[-1])
                # What is safe to go out of is safe to go over.
                self.assertIn(safe, (['step'], ['step', 'next'], ['step', 'next', 'out']))

    def test_more_than_can_be_written(self):
        program = chain('abcdefgh', 12)
        packed = unsafe_rest(program, (('a', 11),), ('a', 0), 'out')
        self.assertGreater(lets_packed(program, packed), 12 ** 7)
        self.gives((('a', 11),), frames_behind, program, packed)
        self.gives(None, unsafe_rest, program, (('a', 11),), ('a', 0), 'next')
        self.assertGreater(lets_packed(program, unsafe_rest(program, (('b', 11),), ('a', 0), 'next')), 12 ** 6)

    def test_ordinary_rests(self):
        self.gives(2, lambda: lets_packed(PROGRAM, unsafe_rest(PROGRAM, W, ('f', 0), 'out')))
        self.gives(((('f', 1),), (), (1,)), unsafe_rest, program=PROGRAM, wished=W, spot=('f', 1), command='next')
        self.gives(None, unsafe_rest, PROGRAM, W, ('f', 1), 'step')
        self.gives(None, unsafe_rest, PROGRAM, W, ('f', 0), 'next')
        # Of two wished spots the nearer one.
        self.gives(((('f', 0),), (), (0, 0)), unsafe_rest, PROGRAM, (('f', 1), ('g', 0)), ('f', 0), 'out')
        # The spot itself, arrived at again.
        self.gives(((('again', 0),), (), (1,)), unsafe_rest, AGAIN, (('again', 0),), ('again', 0), 'next')
        self.gives(1, lambda: lets_packed(PROGRAM, unsafe_rest(PROGRAM, (('main', 0), ('main', 1)), ('main', 1), 'out')))


def least_unsafe(levels, wished, command, program, spot):
    """The fewest arrivals, at least one, of a rest that arrives at a wished spot before the command lands."""
    if command == 'step':
        return None
    if command == 'out':
        return levels.least(lambda frames: frames[-1] in wished, 1)
    inside = Levels(program, (spot,), lambda frames: len(frames) > 1, most=60)
    levels.is_all = levels.is_all and inside.is_all
    return inside.least(lambda frames: len(frames) > 1 and frames[-1] in wished, 1)


class WrongTest(Checks):

    def test_spots(self):
        for thing in anything() + [('g', 1), ('g', False), ('h', 0), ['f', 0], ('main', 3)]:
            if repr(thing) not in [repr(spot) for spot in spots_of(PROGRAM)]:
                self.raises(NotUsable, ('spot', thing), furthest, PROGRAM, W, thing)
                for function in (is_safe, unsafe_rest):
                    self.raises(NotUsable, ('spot', thing), function, PROGRAM, W, thing, 'out')
                    # A wrong spot is told ahead of a wrong command.
                    self.raises(NotUsable, ('spot', thing), function, PROGRAM, W, thing, 'go')
                    self.raises(NotUsable, ('spot', thing), function,
                                program=PROGRAM, wished=(), spot=thing, command=None)

    def test_commands(self):
        for thing in anything() + ['go', 'Step', '', 'steps', ('step',), ['out'], True, 'next ']:
            if not isinstance(thing, str) or thing not in COMMANDS:
                for function in (is_safe, unsafe_rest):
                    self.raises(NotUsable, ('command', 0), function, PROGRAM, W, ('f', 0), thing)
                    self.raises(NotUsable, ('command', 0), function,
                                program=PROGRAM, wished=(), spot=('g', 0), command=thing)


class ConsequencesTest(Checks):

    def test_more_wished_spots_make_no_command_safe(self):
        for program, wished in cases():
            more = tuple(sorted(set(wished) | {spots_of(program)[0]}))
            for spot in spots_of(program):
                for command in COMMANDS:
                    if is_safe(program, more, spot, command):
                        self.assertTrue(is_safe(program, wished, spot, command))

    def test_further_parts_make_no_command_safe(self):
        for program, wished in list(cases())[::6]:
            for other in further(program):
                for spot in spots_of(program):
                    for command in COMMANDS:
                        if is_safe(other, wished, spot, command):
                            self.assertTrue(is_safe(program, wished, spot, command))

    def test_renamed(self):
        for program, wished in list(cases())[::4]:
            names = [name for name, _ in program]
            news = dict(zip(names, names[1:] + ['aaa']))
            other = renamed(program, *news.items())
            wishes = tuple(sorted([(news.get(name, name), index) for name, index in wished]))
            for name, index in spots_of(program):
                self.assertEqual(furthest(other, wishes, (news[name], index)), furthest(program, wished, (name, index)))
            self.assertEqual(quiet_spots(other, wishes), tuple(sorted([
                (news[name], index) for name, index in quiet_spots(program, wished)])))

    def test_small(self):
        self.gives((('f', 0), ('f', 1), ('g', 0)), quiet_spots, (F, G), ())
        self.gives('out', furthest, (G,), (('g', 0),), ('g', 0))
        self.gives((), quiet_spots, (('f', ((('',), (0, BACK), ()),)),), (('f', 0),))


if __name__ == '__main__':
    unittest.main()
