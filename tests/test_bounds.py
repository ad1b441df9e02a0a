import unittest

from outandover.bounds import fewest_stops, most_stops
from outandover.programchanges import renamed
from outandover.programparts import spots_of
from outandover.safety import furthest
from outandover.stepping import stops_of
from outandover.steppers import Furthest
from checks import Checks
from oracle import Stops, all_runs, machine_behind
from samples import AGAIN, BACK, DEEP, F, G, PROGRAM, RING, SAMPLES, STUCK, TWICE, chain, random_program, random_run, random_tree

W = (('g', 0),)

# Functions that call only those behind them, so that stops often have a greatest number.
TREE = (
    ('a', ((('b', 'c'), (1, ('fail', 'x')), (('y', 2),)), (('', 'c'), (2, BACK), ()), (('d',), (BACK,), ()))),
    ('b', ((('c', 'd'), (1, ('fail', 'y')), ()), (('c',), (BACK,), (('', 2),)), (('',), (('fail', 'x'),), ()))),
    ('c', ((('', 'd'), (BACK, ('fail', 'y'), 1), ()), (('d',), (BACK,), ()))),
    ('d', ((('',), (BACK, ('fail', 'z')), ()),)),
)


def programs():
    return SAMPLES + (DEEP, TREE) + tuple([random_program(seed) for seed in range(20)]) + tuple(
        [random_tree(seed) for seed in range(60)])


def cases():
    for seed, program in enumerate(programs()):
        spots = spots_of(program)
        for wished in {(), (('zz', 1),), spots, (spots[seed % len(spots)],), spots[-1:], spots[:2]}:
            yield program, wished


class DocumentTest(Checks):

    def test_of_the_document(self):
        self.gives(None, most_stops, PROGRAM, W)
        self.gives(3, fewest_stops, PROGRAM, W)
        self.gives(3, most_stops, (F, G), W)
        self.gives(3, most_stops, program=(F, G), wished=W)
        self.gives(3, fewest_stops, program=PROGRAM, wished=W)

    def test_nothing_wished(self):
        for program in programs():
            for wished in ((), (('zz', 0),)):
                self.gives(1, most_stops, program, wished)
                # Stuck runs are never over.
                ends = [end for end in Stops(program, ((program[0][0], 0),), lambda spot: 'out', 8).numbers if end]
                if ends:
                    self.gives(1, fewest_stops, program, wished)

    def test_all_wished(self):
        self.gives(None, most_stops, AGAIN, spots_of(AGAIN))
        self.gives(2, fewest_stops, AGAIN, spots_of(AGAIN))
        self.gives(None, most_stops, TWICE, spots_of(TWICE))
        self.gives(2, fewest_stops, TWICE, spots_of(TWICE))
        self.gives(1, most_stops, (G,), W)
        self.gives(3, most_stops, (F, G), spots_of((F, G)))
        self.gives(1, fewest_stops, (F, G), spots_of((F, G)))


class NoneTest(Checks):

    def test_a_ring_in_a_frame(self):
        loop = (('f', ((('',), (0, BACK), ()),)),)
        self.gives(None, most_stops, loop, (('f', 0),))
        self.gives(1, fewest_stops, loop, (('f', 0),))
        self.gives(1, most_stops, loop, ())

    def test_a_ring_of_calls(self):
        self.gives(None, most_stops, RING, (('b', 0),))
        self.gives(None, most_stops, DEEP, (('d', 0),))

    def test_a_ring_that_no_run_comes_to(self):
        self.gives(1, most_stops, RING, (('lone', 0),))
        program = (('f', ((('',), (BACK,), ()), (('',), (1, BACK), ()))), ('h', ((('h',), (0,), ()),)))
        self.gives(1, most_stops, program, spots_of(program))

    def test_frames_that_never_end(self):
        self.gives(None, most_stops, STUCK, (('loops', 0),))
        self.gives(None, fewest_stops, STUCK, (('loops', 0),))
        self.gives(None, fewest_stops, STUCK, ())
        # Each frame calls another one: no run is over, and the stops go on.
        down = (('f', ((('f',), (BACK,), ()),)),)
        self.gives(None, fewest_stops, down, ())
        self.gives(1, most_stops, down, ())
        self.gives(None, most_stops, down, (('f', 0),))

    def test_calls_that_are_never_left(self):
        # Behind g 1 nothing ends, so that all stops come in calls that are still open.
        program = (('f', ((('g',), (BACK,), ()),)), ('g', ((('',), (1,), ()), (('h',), (BACK,), ()))),
                   ('h', ((('',), (0,), ()),)))
        self.gives(3, most_stops, program, (('g', 1),))
        self.gives(None, fewest_stops, program, (('g', 1),))
        self.gives(2, most_stops, program, (('g', 0),))

    def test_a_loop_at_quiet_spots(self):
        # The stepper goes out of g, whose loop thus has no stops of its own.
        program = (('f', ((('g',), (1,), ()), (('',), (BACK,), ()))), ('g', ((('',), (1, 0), ()), (('',), (BACK,), ()))))
        self.gives(2, most_stops, program, (('f', 1),))
        self.gives(2, fewest_stops, program, (('f', 1),))
        self.gives(None, most_stops, program, (('g', 1),))
        self.gives(4, fewest_stops, program, (('f', 1), ('g', 1)))

    def test_a_loop_that_is_stepped_over(self):
        program = (('f', ((('g',), (1,), ()), (('',), (2,), ()), (('',), (BACK,), ()))), ('g', ((('',), (0, BACK), ()),)))
        self.gives(3, most_stops, program, (('f', 1), ('f', 2)))
        self.gives(3, most_stops, program, (('f', 2),))
        self.gives(1, most_stops, program, (('f', 0),))


class ManyTest(Checks):

    def test_more_than_runs_can_show(self):
        program = chain('abcdefgh', 12)
        wished = spots_of(program)
        # All arrivals of the one run that there is are stops.
        many = 12
        for _ in range(7):
            many = 12 * (many + 1)
        self.gives(many, most_stops, program, wished)
        self.gives(many, fewest_stops, program, wished)
        self.gives(1, most_stops, program, (('a', 0),))
        # Each line of a calls b, whose other lines are quiet.
        self.gives(24, most_stops, program, (('b', 0),))

    def test_against_all_rests(self):
        met = {'none': 0, 'most': 0, 'fewest': 0}
        for program, wished in cases():
            commands = {spot: furthest(program, wished, spot) for spot in spots_of(program)}
            told = Stops(program, ((program[0][0], 0),), commands.get, 7, 300)
            most, fewest = most_stops(program, wished), fewest_stops(program, wished)
            seen = told.numbers[()][1]
            ends = [low for end, (low, _) in told.numbers.items() if end]
            self.assertTrue(most is None or most >= seen)
            self.assertTrue(not ends or fewest <= min(ends))
            if told.is_all:
                self.assertEqual(most, seen)
                self.assertEqual(fewest, min(ends, default=None))
            met['none'] += most is None
            met['most'] += most == seen and seen > 1
            met['fewest'] += bool(ends) and fewest == min(ends) and fewest > 1
        self.assertGreater(min(met.values()), 40, met)

    def test_against_all_runs_of_each_length(self):
        for program, wished in list(cases())[::7]:
            most, fewest = most_stops(program, wished), fewest_stops(program, wished)
            stepper = Furthest(program, wished)
            for count in range(7):
                for run in all_runs(program, count):
                    stops = stops_of(program, run, stepper)
                    self.assertTrue(most is None or len(stops) <= most)
                    if not machine_behind(program, run).stack:
                        self.assertGreaterEqual(len(stops), fewest)

    def test_long_runs(self):
        for seed, (program, wished) in enumerate(cases()):
            run = random_run(program, seed, 60)
            many = len(stops_of(program, run, Furthest(program, wished)))
            most, fewest = most_stops(program, wished), fewest_stops(program, wished)
            self.assertTrue(most is None or many <= most)
            self.assertTrue(machine_behind(program, run).stack or many >= fewest)

    def test_a_tree(self):
        for spot in spots_of(TREE):
            told = Stops(TREE, (('a', 0),), lambda at: furthest(TREE, (spot,), at), 20, 5000)
            self.gives(told.numbers[()][1], most_stops, TREE, (spot,))
            self.gives(min([low for end, (low, _) in told.numbers.items() if end]), fewest_stops, TREE, (spot,))


class ConsequencesTest(Checks):

    def test_more_wished_spots_more_stops(self):
        for program, wished in cases():
            more = tuple(sorted({*wished, spots_of(program)[-1]}))
            most, other = most_stops(program, wished), most_stops(program, more)
            self.assertTrue(other is None or most is not None and most <= other)
            fewest = fewest_stops(program, wished)
            self.assertTrue(fewest is None or fewest <= fewest_stops(program, more))

    def test_renamed(self):
        for program, wished in list(cases())[::3]:
            news = {name: 'n' + name[:7] for name, _ in program}
            other = renamed(program, *news.items())
            moved = tuple(sorted([(news.get(name, name), index) for name, index in wished]))
            self.gives(most_stops(program, wished), most_stops, other, moved)
            self.gives(fewest_stops(program, wished), fewest_stops, other, moved)


if __name__ == '__main__':
    unittest.main()
