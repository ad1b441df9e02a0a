import inspect
import unittest
from itertools import islice

from outandover.choosing import is_run, options_after
from outandover.listing import how_many_runs, runs_of
from checks import Checks
from oracle import all_runs, counts_by_states
from samples import AGAIN, BACK, F, G, PROGRAM, RING, SAMPLES, TWICE, random_program

# Forty lines with fourteen ways each; nothing is ever over, so that each way counts.
WIDE = tuple([
    (name, ((('',), tuple(range(many)) + tuple([('fail', kind) for kind in 'klmnopqrst'])[:14 - many], (('', 0),)),) * many)
    for name, many in (('a', 12), ('b', 12), ('c', 12), ('d', 4))
])


class ListingTest(Checks):

    def test_of_the_document(self):
        self.same([(0, 0, 0), (0, 0, 1)], list(runs_of(PROGRAM, 3)))
        self.gives(4, how_many_runs, program=PROGRAM, count=5)
        self.gives(3, how_many_runs, PROGRAM, 6)

    def test_a_generator(self):
        self.assertTrue(inspect.isgeneratorfunction(runs_of))
        self.assertTrue(inspect.isgenerator(runs_of(program=PROGRAM, count=3)))
        self.same([()], list(runs_of(PROGRAM, 0)))
        self.gives(1, how_many_runs, PROGRAM, 0)

    def test_one_by_one(self):
        first = list(islice(runs_of(TWICE, 20), 3))
        self.same([(0, 0, 0, 0)], list(runs_of(TWICE, 4))[:1])
        self.assertEqual([len(run) for run in first], [20, 20, 20])
        self.assertEqual(first, sorted(first))

    def test_where_runs_end(self):
        # The shortest program is over behind two choices.
        shortest = (G,)
        self.same([[()], [(0,)], [(0, 0)], [], []], [list(runs_of(shortest, many)) for many in range(5)])
        self.same([1, 1, 1, 0, 0], [how_many_runs(shortest, many) for many in range(5)])
        # f is over behind two choices by its fault, or behind four, or behind six.
        self.same([[(0, 0), (0, 1)], [(0, 0, 0), (0, 0, 1)], [(0, 0, 0, 0), (0, 0, 1, 0)], [(0, 0, 1, 0, 0)],
                   [(0, 0, 1, 0, 0, 0)], []], [list(runs_of((F, G), many)) for many in range(2, 8)])
        self.same([2, 2, 2, 1, 1, 0, 0], [how_many_runs((F, G), many) for many in range(2, 9)])

    def test_against_all_runs(self):
        for program in SAMPLES + tuple([random_program(seed) for seed in range(25)]):
            for many in range(6):
                expected = all_runs(program, many)
                self.same(sorted(expected), list(runs_of(program, many)))
                self.gives(len(expected), how_many_runs, program, many)

    def test_against_counts_by_states(self):
        for program in (PROGRAM, AGAIN, RING, TWICE, (F, G)):
            self.same(counts_by_states(program, 20), [how_many_runs(program, many) for many in range(21)])
        for seed in range(30):
            program = random_program(seed)
            self.same(counts_by_states(program, 12), [how_many_runs(program, many) for many in range(13)])

    def test_ascending_without_duplicates(self):
        for program in (AGAIN, RING, PROGRAM):
            for many in (7, 8, 12):
                found = list(runs_of(program, many))
                self.assertEqual(found, sorted(set(found)))
                self.assertEqual(len(found), how_many_runs(program, many))
                self.assertTrue(all(len(run) == many and is_run(program, run) for run in found))

    def test_the_sum_of_the_options(self):
        for program in SAMPLES:
            for many in range(9):
                if how_many_runs(program, many) < 3000:
                    total = sum([options_after(program, run) for run in runs_of(program, many)])
                    self.gives(total, how_many_runs, program, many + 1)

    def test_great_counts(self):
        self.gives(14 ** 10, how_many_runs, WIDE, 20)
        self.gives(14 ** 9, how_many_runs, WIDE, 19)
        self.assertEqual(sum(len(lines) for _, lines in WIDE), 40)

    def test_great_counts_with_calls(self):
        # Each of eight functions calls all of them; no frame ever ends, so the calls alone make the depth.
        names = tuple('abcdefgh')
        many = 5
        line = (('',) + names, tuple(range(many)) + tuple([('fail', kind) for kind in 'klmnopqrs']), (('', 1),))
        program = tuple([(name, (line,) * many) for name in names])
        # Either nothing is called, and one of 14 ways leads on; or one of eight functions is called.
        counts = [1, 9]
        for _ in range(19):
            counts.append(14 * counts[-2] + 8 * counts[-1])
        self.same(counts, [how_many_runs(program, count) for count in range(21)])

    def test_great_counts_with_ends(self):
        names = tuple('abcdefgh')
        ends = (BACK,) + tuple([('fail', kind) for kind in 'klmnopqr'])
        line = (('',) + names, tuple(range(5)) + ends, (('k', 4), ('l', 3), ('m', 2), ('n', 1)))
        program = tuple([(name, (line,) * 5) for name in names])
        found = [how_many_runs(program, count) for count in range(21)]
        self.same(counts_by_shape(20), found)
        self.assertGreater(found[20], 2 ** 60)

    def test_runs_that_are_over_early_do_not_count(self):
        # All but one of the runs are over behind two choices; one way leads on for twenty.
        lines = [(('',), (index + 1, BACK) + tuple([('fail', kind) for kind in 'klmnopqr']), ()) for index in range(11)]
        program = (('f', tuple(lines) + ((('',), (BACK,), ()),)),)
        self.same([(0,) * 20], list(runs_of(program, 20))[:1])
        self.same([(0,) * 19], list(runs_of(program, 19)))
        self.gives(10, how_many_runs, program, 20)

    def test_no_run_of_that_length_among_very_many(self):
        # Each of eight lines leads on to the next one by nine ways, eight of them faults that it handles.
        faults = tuple([('fail', kind) for kind in 'klmnopqr'])
        lines = [(('',), (index + 1,) + faults, (('', index + 1),)) for index in range(8)]
        program = (('f', tuple(lines) + ((('',), (BACK,), ()),)),)
        self.gives(9 ** 8, how_many_runs, program, 18)
        self.same([(0,) * 18], list(islice(runs_of(program, 18), 1)))
        for count in (19, 20):
            # Trying all of them would take minutes.
            self.same([], list(runs_of(program, count)))
            self.gives(0, how_many_runs, program, count)

    def test_few_runs_of_that_length_among_very_many(self):
        # Nearly all runs are over by a fault of b, which nothing handles; one way goes on behind it for long.
        faults = tuple([('fail', kind) for kind in 'klmnopqr'])
        program = (
            ('a', ((('b',), (1,), ()), (('',), (1, BACK), ()))),
            ('b', ((('',), (1,) + faults, ()), (('',), (BACK,) + faults, ()))),
        )
        for count in range(21):
            self.assertEqual(len(list(runs_of(program, count))), how_many_runs(program, count))
        self.assertEqual(counts_by_states(program, 20), [how_many_runs(program, count) for count in range(21)])


def counts_by_shape(most):
    """How many runs the program of test_great_counts_with_ends has, kept by the depth and by what comes next.

    At an arrival: "" (one), or a call of eight functions. Behind: five ways go on, four faults are handled at
    once, one way goes back, and four faults end all frames, since no line handles them.
    """
    states = {(1, False): 1}
    counts = [1]
    for _ in range(most):
        following = {}
        for (depth, behind), many in states.items():
            if depth == 0:
                continue
            if behind:
                moves = (((depth, False), 5 + 4), ((depth - 1, True), 1), ((0, False), 4))
            else:
                moves = (((depth, True), 1), ((depth + 1, False), 8))
            for state, times in moves:
                following[state] = following.get(state, 0) + times * many
        counts.append(sum(following.values()))
        states = following
    return counts


if __name__ == '__main__':
    unittest.main()
