import unittest
from random import Random

from outandover.choosing import arrivals_of
from outandover.errors import NotUsable
from outandover.programparts import spots_of
from outandover.safety import furthest, is_safe, quiet_spots
from outandover.stepping import passed_by, stops_of
from checks import Checks
from oracle import stops_by_rules
from samples import AGAIN, DEEP, PROGRAM, RUN, SAMPLES, TWICE, anything, random_program, random_run

W = (('g', 0),)
COMMANDS = ('step', 'next', 'out')


def programs():
    return SAMPLES + (DEEP,) + tuple([random_program(seed) for seed in range(40)])


def always(command):
    return lambda run: command


def in_turn(words):
    """A stepper that gives these words, one at each call, and keeps what it was called with."""
    calls = []

    def stepper(run):
        calls.append(run)
        return words[(len(calls) - 1) % len(words)]
    return stepper, calls


def furthest_stepper(program, wished):
    return lambda run: furthest(program, wished, arrivals_of(program, run)[-1][1])


def safe_stepper(program, wished, seed):
    """A stepper that gives some safe command, which depends on the whole run."""
    def stepper(run):
        spot = arrivals_of(program, run)[-1][1]
        safe = [command for command in COMMANDS if is_safe(program, wished, spot, command)]
        return Random(f'{seed} {run}').choice(safe)
    return stepper


def cases():
    known = programs()
    for seed in range(160):
        program = known[seed % len(known)]
        chance = Random(seed)
        spots = spots_of(program) + (('zz', 1),)
        wished = tuple(sorted(chance.sample(spots, chance.randint(0, min(4, len(spots))))))
        yield seed, program, wished, random_run(program, seed, 30)


class StopsTest(Checks):

    def test_of_the_document(self):
        self.gives((0, 1, 2, 3, 4), stops_of, PROGRAM, RUN, furthest_stepper(PROGRAM, W))
        stepper, _ = in_turn(['step', 'out'])
        self.assertEqual(stops_of(PROGRAM, RUN, stepper), (0, 1, 4))
        self.gives((3,), passed_by, PROGRAM, W, RUN, always('next'))

    def test_by_name(self):
        self.gives((0, 4), stops_of, program=PROGRAM, run=RUN, stepper=always('next'))
        self.gives((3,), passed_by, program=PROGRAM, wished=W, run=RUN, stepper=always('next'))

    def test_each_command(self):
        self.gives((0, 1, 2, 3, 4), stops_of, PROGRAM, RUN, always('step'))
        self.gives((0, 4), stops_of, PROGRAM, RUN, always('next'))
        # In the first function "out" never lands.
        self.gives((0,), stops_of, PROGRAM, RUN, always('out'))
        self.gives((0,), stops_of, TWICE, (1, 1, 0, 0, 0, 0, 0, 0, 0, 0, 0, 0), always('out'))
        self.gives((), passed_by, PROGRAM, (), RUN, always('out'))
        self.gives((2, 3), passed_by, PROGRAM, (('f', 1), ('g', 0), ('main', 0)), RUN, always('out'))

    def test_the_empty_run(self):
        stepper, calls = in_turn(['out'])
        self.assertEqual(stops_of(PROGRAM, (), stepper), (0,))
        self.assertEqual(calls, [()])
        self.assertEqual(passed_by(PROGRAM, (('main', 0),), (), stepper), ())

    def test_calls_of_the_stepper(self):
        # Once at each stop, also at the last one, with the choices up to there.
        stepper, calls = in_turn(['step', 'out', 'step'])
        self.assertEqual(stops_of(PROGRAM, RUN, stepper), (0, 1, 4))
        self.same([(), (0,), RUN[:8]], calls)
        stepper, calls = in_turn(['step'])
        passed_by(PROGRAM, W, RUN, stepper)
        self.same([(), (0,), (0, 0, 0), (0, 0, 0, 1), (0, 0, 0, 1, 0, 0, 0, 0)], calls)

    def test_it_is_not_begun_anew(self):
        stepper, calls = in_turn(['step', 'next'])
        found = [stops_of(PROGRAM, RUN, stepper) for _ in range(3)]
        self.assertEqual(found, [(0, 1, 2, 3, 4), (0, 4), (0, 4)])
        self.assertEqual(len(calls), 9)
        stepper, calls = in_turn(['step', 'next', 'next'])
        found = [stops_of(PROGRAM, RUN, stepper) for _ in range(3)]
        # The commands go on in turn from one call of stops_of to the next.
        self.assertEqual(len(calls), sum([len(one) for one in found]))
        self.assertEqual(found, [(0, 1, 2, 4), (0, 4), (0, 1, 2, 4)])

    def test_steppers_that_use_the_whole_run(self):
        def by_length(run):
            return 'step' if len(run) < 3 else 'out'
        self.gives((0, 1, 2, 4), stops_of, PROGRAM, RUN, by_length)
        self.assertEqual(stops_of(PROGRAM, RUN, lambda run: COMMANDS[sum(run)]), (0, 1, 2, 3, 4))

    def test_runs_that_are_over_or_not(self):
        for many in range(len(RUN) + 1):
            arrivals = len(arrivals_of(PROGRAM, RUN[:many]))
            self.gives(tuple(range(arrivals)), stops_of, PROGRAM, RUN[:many], always('step'))

    def test_recursion(self):
        run = (1, 1, 1, 0, 0, 0, 0, 0)
        self.assertEqual([depth for depth, _ in arrivals_of(AGAIN, run)], [0, 1, 2, 3, 3, 2])
        self.gives((0,), stops_of, AGAIN, run, always('next'))
        stepper, _ = in_turn(['step', 'step', 'out', 'out'])
        self.assertEqual(stops_of(AGAIN, run, stepper), (0, 1, 2))
        stepper, _ = in_turn(['step', 'step', 'next', 'out'])
        self.assertEqual(stops_of(AGAIN, run, stepper), (0, 1, 2, 5))
        stepper, _ = in_turn(['step', 'step', 'step', 'next', 'out'])
        self.assertEqual(stops_of(AGAIN, run, stepper), (0, 1, 2, 3, 4, 5))
        stepper, _ = in_turn(['step', 'step', 'step', 'out', 'out'])
        self.assertEqual(stops_of(AGAIN, run, stepper), (0, 1, 2, 3, 5))

    def test_against_the_oracle(self):
        for seed, program, wished, run in cases():
            for stepper in [always(command) for command in COMMANDS] + [
                    furthest_stepper(program, wished), lambda run: Random(f'{seed} {run}').choice(COMMANDS)]:
                stops = stops_by_rules(program, run, stepper)
                self.gives(stops, stops_of, program, run, stepper)
                arrivals = arrivals_of(program, run)
                passed = [k for k in range(len(arrivals)) if arrivals[k][1] in wished and k not in stops]
                self.gives(tuple(passed), passed_by, program, wished, run, stepper)


class WrongTest(Checks):

    def test_choices_ahead_of_any_call(self):
        for run, k in ((RUN + (0,), 10), ((0, 0, True), 2), ((1,), 0), ((0, None), 1), ((0, 0, 2, 'x'), 2)):
            stepper, calls = in_turn([None])
            for function, more in ((stops_of, ()), (passed_by, (W,))):
                with self.assertRaises(NotUsable) as caught:
                    function(PROGRAM, *more, run, stepper)
                self.assertEqual((caught.exception.word, caught.exception.at), ('choice', k))
            self.assertEqual(calls, [])

    def test_any_choice(self):
        for thing in anything():
            if repr(thing) != '0':
                self.raises(NotUsable, ('choice', 0), stops_of, PROGRAM, (thing,), always('step'))
                self.raises(NotUsable, ('choice', 0), passed_by, PROGRAM, W, (thing,), always(None))

    def test_what_is_no_command(self):
        for thing in anything() + ['go', 'Step', '', ('step',), ['next'], True, {}, 1]:
            if not isinstance(thing, str) or thing not in COMMANDS:
                self.raises(NotUsable, ('command', 0), stops_of, PROGRAM, RUN, always(thing))
                self.raises(NotUsable, ('command', 0), passed_by, PROGRAM, (), (), always(thing))
                for words, k in ((['step', thing], 1), (['next', thing], 4), (['step', 'step', 'step', thing], 3)):
                    stepper, calls = in_turn(words)
                    with self.assertRaises(NotUsable) as caught:
                        stops_of(PROGRAM, RUN, stepper)
                    self.same(('command', k), (caught.exception.word, caught.exception.at))
                    self.assertEqual(len(calls), len(words))

    def test_at_the_last_stop(self):
        stepper, _ = in_turn(['step'] * 4 + ['go'])
        self.raises(NotUsable, ('command', 4), lambda: passed_by(PROGRAM, W, RUN, stepper))
        # A stop that is not come to asks nothing.
        self.gives((0, 1, 2, 3), lambda: stops_of(PROGRAM, RUN[:7], in_turn(['step'] * 4 + ['go'])[0]))

    def test_the_errors_of_the_stepper_come_through(self):
        def stepper(run):
            raise KeyError('x')
        with self.assertRaises(KeyError):
            stops_of(PROGRAM, RUN, stepper)


class ConsequencesTest(Checks):

    def test_the_furthest_stepper_passes_nothing_wished(self):
        for _, program, wished, run in cases():
            self.gives((), passed_by, program, wished, run, furthest_stepper(program, wished))

    def test_its_stops_are_stops_of_every_safe_stepper(self):
        more = 0
        for seed, program, wished, run in cases():
            own = set(stops_of(program, run, furthest_stepper(program, wished)))
            for k in range(4):
                stepper = safe_stepper(program, wished, (seed, k))
                self.assertEqual(passed_by(program, wished, run, stepper), ())
                stops = set(stops_of(program, run, stepper))
                self.assertTrue(own <= stops)
                more += len(stops) > len(own)
        self.assertGreater(more, 100)

    def test_an_unsafe_command_passes_something_on_some_run(self):
        # "out" at f 0 is not safe: the furthest stepper elsewhere, and it here, passes g 0.
        def stepper(run):
            spot = arrivals_of(PROGRAM, run)[-1][1]
            return 'out' if spot == ('f', 0) else furthest(PROGRAM, W, spot)
        self.gives((3,), passed_by, PROGRAM, W, RUN, stepper)

    def test_more_wished_spots_more_stops(self):
        for _, program, wished, run in cases():
            more = tuple(sorted(set(wished) | {spots_of(program)[-1]}))
            before = set(stops_of(program, run, furthest_stepper(program, wished)))
            self.assertTrue(before <= set(stops_of(program, run, furthest_stepper(program, more))))

    def test_it_stops_at_each_arrival_that_is_not_quiet(self):
        for _, program, wished, run in cases():
            quiet = quiet_spots(program, wished)
            stops = stops_of(program, run, furthest_stepper(program, wished))
            for k, (_, spot) in enumerate(arrivals_of(program, run)):
                self.assertTrue(spot in quiet or k in stops)


if __name__ == '__main__':
    unittest.main()
