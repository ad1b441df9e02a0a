import unittest
from itertools import combinations
from random import Random

from outandover.errors import NotUsable
from outandover.landing import halts_of, on_the_way
from outandover.packedchecker import lets_packed
from outandover.plans import is_right, least_plan, plan_fault
from outandover.programchanges import renamed
from outandover.programparts import spots_of
from checks import Checks
from oracle import Halts, machine_behind, written
from samples import (
    AGAIN, BACK, DEEP, FAULTS, PROGRAM, SAMPLES, STUCK, TWICE, anything, chain, cuts_of, random_frames, random_program,
    random_tree,
)

COMMANDS = ('step', 'next', 'out')
IN_F = (('main', 0), ('f', 0))
HERE = (('again', 0),)


def programs():
    return SAMPLES + (DEEP,) + tuple([random_program(seed) for seed in range(40)])


def cases(many=600):
    """A program, frames, a command and breakpoints, by chance."""
    known = programs()
    for seed in range(many):
        chance = Random(seed)
        program = known[seed % len(known)]
        yield chance, program, random_frames(program, chance, 4), chance.choice(COMMANDS), chance.choice(
            cuts_of(program) + [()])


def plan_by_chance(chance, program, frames, plan):
    """The plan with plants more or less, or turned to other looks."""
    plants = set(plan)
    for _ in range(chance.randint(0, 3)):
        spot = chance.choice(spots_of(program) + (('zz', 0),))
        plant = (spot, chance.randint(-1, len(frames) - 1))
        if plants and chance.random() < 0.4:
            plants.discard(chance.choice(sorted(plants)))
        else:
            plants.add(plant)
    return tuple(sorted(plants))


class LeastTest(Checks):

    def test_of_the_document(self):
        self.gives(((('again', 1), 0),), least_plan, AGAIN, HERE, 'next')
        self.gives(((('again', 1), -1),), least_plan, AGAIN, HERE, 'next', breaks=(('again', 1),))
        self.gives(((('main', 1), -1), (('main', 2), -1)), least_plan, PROGRAM, IN_F, 'out')
        self.gives(((('main', 1), -1), (('main', 2), -1)), least_plan, program=PROGRAM, frames=IN_F, command='out',
                   breaks=())

    def test_several_depths(self):
        # y is handled at the second frame, x at the lowest; b 1 can come at two depths.
        frames = (('a', 1), ('b', 0), ('c', 0), ('b', 0), ('d', 0))
        self.gives(((('b', 1), -1),), least_plan, DEEP, frames, 'step')
        program = (('f', ((('', 'f'), (1,), ()), (('',), (('back',), 1), ()))),)
        frames = (('f', 0), ('f', 0), ('f', 1))
        self.gives(((('f', 1), -1),), least_plan, program, frames, 'next')
        frames = (('f', 0), ('f', 0), ('f', 0))
        self.gives(((('f', 1), 2),), least_plan, program, frames, 'next')
        self.gives(((('f', 1), 1),), least_plan, program, frames, 'out')

    def test_six_frames(self):
        frames = (('again', 0),) * 6
        self.gives(((('again', 1), 5),), least_plan, AGAIN, frames, 'next')
        self.gives(((('again', 1), 4),), least_plan, AGAIN, frames, 'out')
        self.gives(((('again', 0), -1), (('again', 1), -1)), least_plan, AGAIN, frames, 'step')
        self.gives(None, plan_fault, AGAIN, frames, 'out', ((('again', 1), 4), (('zz', 0), 2)))
        self.gives(('early', (frames, (), (0, 0))), plan_fault, AGAIN, frames, 'out', ((('again', 1), 4), (('again', 1), 5)))

    def test_two_looks_at_one_spot(self):
        program = (('f', ((('f', 'g'), (1, ('back',)), (('', 1),)), (('',), (('back',),), ()))),
                   ('g', ((('',), (('back',), ('fail', 'x')), ()),)))
        frames = (('f', 0), ('f', 0))
        # f ends at once, or by its line 1, at this depth, or at that below; calls above arrive there, too.
        self.gives(((('f', 1), 0), (('f', 1), 1)), least_plan, program, frames, 'next')
        self.gives(((('f', 1), 0), (('f', 1), 1)), halts_of, program, frames, 'next')
        self.gives(((('f', 1), -1),), least_plan, program, frames, 'next', breaks=(('f', 1),))

    def test_plans_without_plants(self):
        self.gives((), least_plan, STUCK, (('begins', 0), ('loops', 0)), 'out')
        self.gives((), least_plan, PROGRAM, (('main', 0),), 'out')
        self.gives(True, is_right, PROGRAM, (('main', 0),), 'out', ())
        self.gives((), least_plan, (PROGRAM[2],), (('g', 0),), 'next')

    def test_it_is_right(self):
        for _, program, frames, command, breaks in cases():
            plan = least_plan(program, frames, command, breaks=breaks)
            self.gives(True, is_right, program, frames, command, plan, breaks=breaks)
            self.gives(None, plan_fault, program, frames, command, plan, breaks=breaks)
            self.assertIsNone(Halts(program, frames, command, breaks, plan, most=60).many)

    def test_plants_and_looks(self):
        for _, program, frames, command, breaks in cases():
            plan = least_plan(program, frames, command, breaks=breaks)
            halts = halts_of(program, frames, command, breaks=breaks)
            lines, spots = on_the_way(program, frames, command, breaks=breaks)
            way = {(frames[-1][0], index) for index in lines} | set(spots)
            self.assertEqual({spot for spot, _ in plan}, {spot for spot, _ in halts})
            for spot, look in plan:
                self.assertEqual(look != -1, spot not in breaks and spot in way)
            for spot in {spot for spot, look in plan if look != -1}:
                self.assertEqual([look for at, look in plan if at == spot], [depth for at, depth in halts if at == spot])

    def test_no_other_plan_is_as_small(self):
        tried = 0
        for _, program, frames, command, breaks in cases(160):
            plan = least_plan(program, frames, command, breaks=breaks)
            told = Halts(program, frames, command, breaks, most=80)
            if len(plan) > 2 or len(spots_of(program)) > 6 or not told.is_all:
                continue
            plants = [(spot, look) for spot in spots_of(program) for look in range(-1, len(frames))]
            for many in range(len(plan) + 1):
                for other in combinations(sorted(plants), many):
                    if other != plan and is_right_by(told, other):
                        tried += 1
                        self.assertEqual(many, len(plan))
                        self.assertLess(looks_of(plan), looks_of(other))
                        self.gives(True, is_right, program, frames, command, other, breaks=breaks)
        self.assertGreater(tried, 20)


def looks_of(plan):
    return len([look for _, look in plan if look != -1])


def is_right_by(told, plan):
    """Whether a plan is right by all arrivals that were seen."""
    def is_hit(arrival):
        return (arrival[0], -1) in plan or arrival in plan
    return all([is_hit(one) for one in told.halts]) and not any([is_hit(one) for one in told.passed])


class FaultTest(Checks):

    def test_of_the_document(self):
        self.gives(False, is_right, PROGRAM, IN_F, 'out', ())
        self.gives('misses', lambda: plan_fault(AGAIN, HERE, 'next', ())[0])
        self.gives('early', lambda: plan_fault(AGAIN, HERE, 'next', ((('again', 1), -1),))[0])
        self.gives(False, is_right, program=PROGRAM, frames=IN_F, command='out', plan=(), breaks=())
        self.gives('misses', lambda: plan_fault(program=AGAIN, frames=HERE, command='next', plan=(), breaks=())[0])

    def test_at_the_very_first_arrival(self):
        self.gives(('misses', ((('main', 0),), (), (0,))), plan_fault, PROGRAM, (('main', 0),), 'step', ())
        self.gives(('early', ((('main', 0),), (), (0,))), plan_fault, PROGRAM, (('main', 0),), 'next',
                   ((('f', 0), -1),))
        self.gives(('misses', ((('main', 0),), (), (0,))), plan_fault, PROGRAM, (('main', 0),), 'next', (),
                   breaks=(('f', 0),))

    def test_looks(self):
        # At f 1 a look at the depth of main does not see the arrival in f.
        plan = ((('f', 1), 0), (('main', 1), -1), (('main', 2), -1))
        self.gives(True, is_right, PROGRAM, IN_F, 'out', plan)
        plan = ((('f', 1), 1), (('main', 1), -1), (('main', 2), -1))
        self.gives('early', lambda: plan_fault(PROGRAM, IN_F, 'out', plan)[0])
        self.gives(1, lambda: lets_packed(PROGRAM, plan_fault(PROGRAM, IN_F, 'out', plan)[1]))
        # With and without a look at one spot.
        self.gives(True, is_right, PROGRAM, IN_F, 'out', ((('main', 1), -1), (('main', 1), 0), (('main', 2), 0)))
        self.gives(False, is_right, PROGRAM, IN_F, 'out', ((('main', 1), 1), (('main', 2), 0)))

    def test_more_than_is_needed(self):
        plan = ((('main', 0), -1), (('main', 1), -1), (('main', 2), -1), (('zz', 4), -1))
        self.gives(True, is_right, PROGRAM, IN_F, 'out', plan)
        self.gives(None, plan_fault, PROGRAM, IN_F, 'out', plan)

    def test_frames_that_are_never_left(self):
        frames = (('begins', 0), ('loops', 0))
        self.gives(None, plan_fault, STUCK, frames, 'out', ())
        self.gives(None, plan_fault, STUCK, frames, 'out', ((('begins', 1), -1),))
        self.gives(('early', (frames, (), (0, 0))), plan_fault, STUCK, frames, 'out', ((('loops', 0), -1),))
        self.gives(('early', (frames, (), (0, 0))), plan_fault, STUCK, frames, 'out', ((('loops', 0), 1),))
        self.gives(None, plan_fault, STUCK, frames, 'out', ((('loops', 0), 0),))

    def test_behind_many_lives(self):
        program = chain('abcdefgh', 12)
        frames = (('a', 0), ('b', 0))
        word, packed = plan_fault(program, frames, 'out', ())
        self.assertEqual(word, 'misses')
        self.assertGreater(lets_packed(program, packed), 12 ** 6)
        self.gives(None, plan_fault, program, frames, 'out', ((('a', 1), -1),))
        word, packed = plan_fault(program, frames, 'out', ((('a', 1), -1), (('b', 11), -1)))
        self.assertEqual(word, 'early')
        self.assertGreater(lets_packed(program, packed), 12 ** 6)

    def test_against_all_rests(self):
        met = {None: 0, 'misses': 0, 'early': 0}
        for chance, program, frames, command, breaks in cases():
            plan = plan_by_chance(chance, program, frames, least_plan(program, frames, command, breaks=breaks))
            told = Halts(program, frames, command, breaks, plan, most=100)
            found = plan_fault(program, frames, command, plan, breaks=breaks)
            self.gives(found is None, is_right, program, frames, command, plan, breaks=breaks)
            met[found and found[0]] += 1
            if told.many is not None:
                self.assertEqual(lets_packed(program, found[1]), told.many)
                self.assertIn(found[0], told.words)
            elif found is not None:
                self.assertFalse(told.is_all)
                self.assertGreaterEqual(lets_packed(program, found[1]), told.seen)
            if found is not None:
                self.assert_fault(program, frames, told, *found)
        self.assertGreater(min(met.values()), 10)

    def assert_fault(self, program, frames, told, word, packed):
        self.assertEqual(packed[0], frames)
        machine = machine_behind(program, written(packed), frames)
        self.assertTrue(machine.stack and not machine.behind)
        arrivals = [(spot, depth) for depth, spot in machine.arrivals[1:]]
        for spot, depth in arrivals[:-1]:
            self.assertFalse(told.halts_at(spot, depth) or told.is_hit(spot, depth))
        self.assertEqual((told.halts_at(*arrivals[-1]), told.is_hit(*arrivals[-1])), (word == 'misses', word == 'early'))


    def test_the_fewest_arrivals_of_several_faults(self):
        program = (('m', ((('f',), (1,), (('x', 1),)), (('',), (BACK,), ()))),
                   ('f', ((('', 'g'), (1, 3), ()), (('',), (2,), ()), (('',), (BACK,), ()), (('',), (('fail', 'x'),), ()))),
                   ('g', ((('',), (1,), ()), (('',), (BACK,), ()))))
        frames = (('m', 0), ('f', 0))
        for plan, many, word in (
                ((), 2, 'misses'), (((('f', 2), -1), (('g', 0), -1)), 1, 'early'), (((('f', 2), -1),), 2, None),
                (((('f', 2), -1), (('g', 1), -1), (('m', 1), -1)), 2, 'early'), (((('f', 3), -1), (('f', 2), 1)), 1, 'early'),
                (((('f', 3), 1), (('g', 1), -1), (('m', 1), -1)), 1, 'early'), (((('g', 1), -1),), 2, None)):
            found = plan_fault(program, frames, 'out', plan)
            self.assertEqual(lets_packed(program, found[1]), many)
            self.assertTrue(word in (None, found[0]))

    def test_any_plans(self):
        met = 0
        for seed in range(1500):
            chance = Random(seed)
            program = (random_tree if seed % 3 else random_program)(seed)
            frames = random_frames(program, chance, 4)
            plants = [(spot, look) for spot in spots_of(program) for look in range(-1, len(frames))]
            plan = tuple(sorted(chance.sample(plants, chance.randint(0, min(6, len(plants))))))
            breaks = tuple(sorted(chance.sample(spots_of(program), chance.choice([0, 0, 1]))))
            told = Halts(program, frames, chance.choice(COMMANDS), breaks, plan, most=60)
            found = plan_fault(program, frames, told.order[0], plan, breaks=breaks)
            if told.many is not None:
                self.assertEqual(lets_packed(program, found[1]), told.many)
                self.assertIn(found[0], told.words)
                met += told.many > 1
                self.assert_fault(program, frames, told, *found)
        self.assertGreater(met, 40)


class WrongTest(Checks):

    def test_frames_and_commands(self):
        for thing in anything() + [('g', 1), ('f', True), ('h', 0), ['f', 0]]:
            if repr(thing) not in [repr(spot) for spot in spots_of(PROGRAM)]:
                for function, more in ((least_plan, ()), (is_right, ((),)), (plan_fault, ((),))):
                    self.raises(NotUsable, ('frames', 0), function, PROGRAM, (thing,), 'go', *more)
                    self.raises(NotUsable, ('frames', 1), function, PROGRAM, (('main', 0), thing), 'out', *more)
        for thing in anything() + ['go', 'Out', '', True]:
            if not isinstance(thing, str) or thing not in COMMANDS:
                for function, more in ((least_plan, ()), (is_right, ((),)), (plan_fault, ((),))):
                    self.raises(NotUsable, ('command', 0), function, PROGRAM, IN_F, thing, *more)
                    self.raises(NotUsable, ('frames', 1), function, PROGRAM, (('main', 1), ('f', 0)), thing, *more,
                                breaks=(('f', 0),))

    def test_breaks_stand_behind_a_star(self):
        for function, more in ((least_plan, ()), (is_right, ((),)), (plan_fault, ((),))):
            with self.assertRaises(TypeError):
                function(PROGRAM, IN_F, 'out', *more, ())


class ConsequencesTest(Checks):

    def test_each_right_plan_has_a_plant_at_each_spot_of_the_least_one(self):
        tried = 0
        for chance, program, frames, command, breaks in cases():
            least = least_plan(program, frames, command, breaks=breaks)
            plan = plan_by_chance(chance, program, frames, least)
            if is_right(program, frames, command, plan, breaks=breaks):
                tried += plan != least
                self.assertTrue({spot for spot, _ in least} <= {spot for spot, _ in plan})
        self.assertGreater(tried, 15)

    def test_a_plant_where_nothing_comes_may_be_added(self):
        for _, program, frames, command, breaks in cases():
            plan = least_plan(program, frames, command, breaks=breaks)
            lines, spots = on_the_way(program, frames, command, breaks=breaks)
            come = {(frames[-1][0], index) for index in lines} | set(spots) | {spot for spot, _ in halts_of(
                program, frames, command, breaks=breaks)}
            more = [(spot, -1) for spot in spots_of(program) + (('zz', 0),) if spot not in come]
            self.gives(True, is_right, program, frames, command, tuple(sorted({*plan, *more})), breaks=breaks)

    def test_renamed(self):
        for _, program, frames, command, breaks in cases(100):
            news = {name: 'n' + name[:7] for name, _ in program}
            other = renamed(program, *news.items())
            moved = tuple([(news[name], index) for name, index in frames])
            stops = tuple(sorted([(news.get(name, name), index) for name, index in breaks]))
            plan = least_plan(program, frames, command, breaks=breaks)
            self.gives(tuple(sorted([((news[name], index), look) for (name, index), look in plan])),
                       least_plan, other, moved, command, breaks=stops)

    def test_samples(self):
        self.gives(((('mid', 1), -1), (('top', 3), -1)), least_plan, FAULTS,
                   (('top', 4), ('mid', 0), ('mid', 0), ('low', 0)), 'next')
        self.gives(((('twice', 1), 0),), least_plan, TWICE, (('twice', 0),), 'next')


if __name__ == '__main__':
    unittest.main()
