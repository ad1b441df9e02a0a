import unittest
from random import Random

from outandover.choosing import arrivals_of, frames_after, is_run, options_after
from outandover.errors import NotUsable
from outandover.listing import how_many_runs, runs_of
from outandover.programs import Program
from outandover.spotsets import Spots
from outandover.walks import Walk
from checks import Checks
from samples import AGAIN, F, G, PROGRAM, RUN, SAMPLES, TWICE, anything, random_program, random_run


def told(walk):
    """All that the properties and operators of a walk tell."""
    arrivals = [walk[k] for k in range(len(arrivals_of(walk.program, walk.choices)))]
    return repr((walk.program, walk.choices, walk.frames, walk.here, walk.is_over, walk.options, walk.given, len(walk),
                 list(walk), arrivals))


def told_of(program, run):
    """The same, told of the run by the module choosing."""
    frames = frames_after(program, run)
    return repr((program, run, frames, frames[-1] if frames else None, frames == (), options_after(program, run),
                 run[-1] if run else None, len(run), list(run), list(arrivals_of(program, run))))


class WalkTest(Checks):

    def refuses(self, at, walk, function, *args):
        """NotUsable for this choice, and the walk stays as it was."""
        before = told(walk)
        self.raises(NotUsable, ('choice', at), function, *args)
        self.assertEqual(told(walk), before)

    def test_of_the_document(self):
        walk = Walk(PROGRAM)
        self.same([1, 2, ('f', 1), (1, ('f', 0)), 3],
                  [walk.take(0), walk.take_all(0, 0), walk.here, walk[1], len(walk)])
        self.same([1, (('main', 0), ('f', 1), ('g', 0)), 1, (0, 0, 0), (('main', 0),)],
                  [walk.set_given(1), walk.frames, walk.back(), walk.choices, walk((0, 0)).frames])
        self.refuses(3, walk, walk.take, 2)

    def test_a_new_walk(self):
        for program in SAMPLES:
            for walk in (Walk(program), Walk(program=program)):
                self.assertIs(walk.program, program)
                self.assertEqual(told(walk), told_of(program, ()))
                self.same((None, 0, ()), (walk.given, len(walk), walk.choices))

    def test_each_choice(self):
        walk = Walk(PROGRAM)
        for many, choice in enumerate(RUN):
            self.assertEqual(told(walk), told_of(PROGRAM, RUN[:many]))
            self.same(options_after(PROGRAM, RUN[:many + 1]), walk.take(choice))
        self.assertEqual(told(walk), told_of(PROGRAM, RUN))
        self.same((None, True, 0, ()), (walk.here, walk.is_over, walk.options, walk.frames))

    def test_here_behind_the_call(self):
        walk = Walk(PROGRAM)
        walk.take_all(0, 0)
        self.same((('f', 0), 2), (walk.here, walk.options))
        walk.take_all(0, 1, 0, 0)
        self.same((('f', 1), 1), (walk.here, walk.options))

    def test_take_by_name(self):
        walk = Walk(AGAIN)
        self.same([2, 2, 1], [walk.take(choice=1), walk.take(1), walk.take(choice=0)])

    def test_take_any_value(self):
        for run in ((), (1, 1), (0,)):
            walk = Walk(AGAIN)(run)
            for thing in anything() + [walk, 2, -1]:
                if repr(thing) != '0' and not (repr(thing) == '1' and walk.options == 2):
                    self.refuses(len(run), walk, lambda thing=thing: walk.take(thing))
                    self.refuses(len(run), walk, lambda thing=thing: walk.set_given(thing))
                    self.refuses(len(run), walk, lambda thing=thing: setattr(walk, 'given', thing))
                    self.refuses(len(run), walk, lambda thing=thing: walk.take_all(thing, 0))
                    self.refuses(len(run), walk, lambda thing=thing: walk((thing,)))

    def test_take_behind_the_end(self):
        walk = Walk(PROGRAM)(RUN)
        self.refuses(10, walk, walk.take, 0)
        self.refuses(10, walk, walk.take_all, 0, 0)
        self.refuses(10, walk, walk.set_given, 0)
        self.same(0, walk.take_all())

    def test_take_all(self):
        walk = Walk(PROGRAM)
        self.same([0, 3, 7, 0], [walk.take_all(), walk.take_all(*RUN[:3]), walk.take_all(*RUN[3:]), walk.take_all()])
        self.same(RUN, walk.choices)

    def test_take_all_or_none(self):
        walk = Walk(PROGRAM)(RUN[:2])
        self.refuses(3, walk, walk.take_all, 0, True, 0)
        self.refuses(4, walk, walk.take_all, 0, 0, 2)
        self.refuses(10, walk, walk.take_all, *RUN[2:], 0)
        self.refuses(2, walk, walk.take_all, None)
        self.same(8, walk.take_all(*RUN[2:]))

    def test_given(self):
        walk = Walk(AGAIN)
        walk.given = 1
        walk.given = 0
        self.same(((1, 0), 0), (walk.choices, walk.given))
        self.same(0, walk.set_given(choice=0))
        self.same((1, 0, 0), walk.choices)

    def test_properties_are_read_only(self):
        walk = Walk(AGAIN)
        for word in ('choices', 'frames', 'here', 'is_over', 'options'):
            with self.assertRaises(AttributeError):
                setattr(walk, word, ())

    def test_back(self):
        walk = Walk(PROGRAM)(RUN)
        for many in range(len(RUN) - 1, -1, -1):
            self.same(RUN[many], walk.back())
            self.assertEqual(told(walk), told_of(PROGRAM, RUN[:many]))
        self.refuses(-1, walk, walk.back)
        self.refuses(-1, walk, walk.back)
        self.assertEqual(walk, Walk(PROGRAM))
        self.same(1, walk.take(0))

    def test_copy(self):
        walk = Walk(AGAIN)((1, 1))
        twin = walk.copy()
        self.assertIsNot(twin, walk)
        self.assertEqual(told(twin), told(walk))
        walk.take(0)
        self.same(((1, 1, 0), (1, 1)), (walk.choices, twin.choices))
        twin.back()
        twin.back()
        self.same(((1, 1, 0), ()), (walk.choices, twin.choices))
        self.same(((2, ('again', 0)), (0, ('again', 0))), (walk[2], twin[0]))

    def test_called(self):
        walk = Walk(PROGRAM)(RUN[:2])
        more = walk(choices=(0, 1))
        self.same((RUN[:4], RUN[:2]), (more.choices, walk.choices))
        self.same(RUN[:2], walk(()).choices)
        self.assertIsNot(walk(()), walk)
        self.refuses(2, walk, walk, (2,))
        self.refuses(4, walk, walk, (0, 0, True, 0))
        more.take_all(*RUN[4:])
        self.same((10, 2), (len(more), len(walk)))

    def test_iterated_over(self):
        walk = Walk(AGAIN)((1, 0, 0))
        self.same([1, 0, 0], list(walk))
        self.same([], list(Walk(AGAIN)))
        self.same([(1, 1), (1, 0)], [(one, two) for one in Walk(AGAIN)((1,)) for two in (1, 0)])

    def test_items(self):
        walk = Walk(PROGRAM)(RUN)
        for k, arrival in enumerate(arrivals_of(PROGRAM, RUN)):
            self.same(arrival, walk[k])
        for thing in anything() + [5, -1, slice(0, 1), 10 ** 30]:
            if repr(thing) not in ('0', '1'):
                self.raises(NotUsable, ('arrival', thing), lambda thing=thing: walk[thing])
        self.same((0, ('main', 0)), Walk(PROGRAM)[0])
        self.raises(NotUsable, ('arrival', 1), lambda: Walk(PROGRAM)[1])
        self.raises(NotUsable, ('arrival', True), lambda: walk[True])

    def test_equal(self):
        self.assertIs(Walk(PROGRAM) == Walk((*PROGRAM,)), True)
        self.assertIs(Walk(PROGRAM)((0,)) == Walk(PROGRAM)((0,)), True)
        self.assertIs(Walk(PROGRAM)((0,)) != Walk(PROGRAM)((0,)), False)
        self.assertIs(Walk(PROGRAM)((0,)) == Walk(PROGRAM), False)
        self.assertIs(Walk((F, G)) == Walk((F, G, ('h', G[1]))), False)
        for thing in anything() + [PROGRAM, (), RUN, Program(PROGRAM), Spots()]:
            self.assertIs(Walk(PROGRAM) == thing, False)

    def test_deep(self):
        walk = Walk(AGAIN)
        self.same(200, walk.take_all(*(1,) * 200))
        self.same((201, (200, ('again', 0))), (len(walk.frames), walk[200]))
        self.same(200, walk.take_all(*(0, 0, 0, 0) + (0, 0, 0) * 65 + (0,)))
        self.assertEqual(told(walk), told_of(AGAIN, walk.choices))


class ConsequencesTest(Checks):

    def test_taken_back_is_as_never_made(self):
        for seed in range(60):
            program = random_program(seed % 25)
            chance = Random(seed)
            walk, run = Walk(program), ()
            for _ in range(40):
                if run and (walk.is_over or chance.random() < 0.35):
                    self.same(run[-1], walk.back())
                    run = run[:-1]
                elif not walk.is_over:
                    choice = chance.randrange(walk.options)
                    walk.take(choice)
                    run = run + (choice,)
                self.assertEqual(told(walk), told_of(program, run))
                self.assertEqual(walk, Walk(program)(run))

    def test_a_run_goes_on_by_its_options(self):
        for seed in range(40):
            program = random_program(seed)
            walk = Walk(program)(random_run(program, seed, 20))
            for choice in range(walk.options):
                self.assertTrue(is_run(program, walk((choice,)).choices))
            self.raises(NotUsable, ('choice', len(walk)), walk, (walk.options,))

    def test_how_many_runs_by_walks(self):
        for program in (PROGRAM, AGAIN, TWICE):
            for many in range(6):
                total = sum([Walk(program)(run).options for run in runs_of(program, many)])
                self.gives(total, how_many_runs, program, many + 1)


if __name__ == '__main__':
    unittest.main()
