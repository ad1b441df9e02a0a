import unittest
from random import Random

from outandover.boundchecker import lets_stops
from outandover.boundpapers import stops_paper
from outandover.bounds import most_stops
from outandover.errors import InvalidPaper
from outandover.packedchecker import lets_packed
from outandover.packing import joined, written_out
from outandover.programparts import spots_of
from outandover.safety import furthest, quiet_spots
from outandover.stepping import stops_of
from outandover.steppers import Furthest
from outandover.tables import rest_of
from checks import Checks
from oracle import Stops
from samples import (
    AGAIN, BACK, DEEP, F, G, PROGRAM, RING, SAMPLES, STUCK, TWICE, anything, chain, nested, random_program, random_tree,
)

W = (('g', 0),)
BAD = ('fail', 'bad')
START = (('main', 0),)
ROWS = (
    (('f', 0), (), 3), (('f', 0), BACK, 3), (('f', 0), BAD, 1),
    (('f', 1), (), 2), (('f', 1), BACK, 2), (('g', 0), (), 1), (('g', 0), BACK, 1),
)
RUN = (START, (('f', (0, 0, 0, 0)),), (0, ('life', 0), 0))
AROUND = ((('main', 1),), (('f', (0, 0, 0, 0)),), (0, 1, 0, ('life', 0), 0))


def programs():
    return SAMPLES + (DEEP,) + tuple([random_program(seed) for seed in range(20)]) + tuple(
        [random_tree(seed) for seed in range(60)])


def cases():
    for seed, program in enumerate(programs()):
        spots = spots_of(program)
        for wished in {(), (('zz', 1),), spots, (spots[seed % len(spots)],), spots[-1:], spots[:2]}:
            yield program, wished


def fault_of_packed(program, thing):
    try:
        lets_packed(program, thing)
    except InvalidPaper as error:
        return (error.word, error.at)
    return None


def stops_at(program, wished, most=9):
    """The spots at which the furthest stepper stops, and the commands that it gives there, from all rests."""
    commands = {spot: furthest(program, wished, spot) for spot in spots_of(program)}
    found, waiting = {}, [(program[0][0], 0)]
    while waiting:
        spot = waiting.pop()
        if spot not in found:
            found[spot] = commands[spot]
            calls = dict(program)[spot[0]][spot[1]][0]
            if commands[spot] == 'step':
                waiting.extend([(call, 0) for call in calls if call])
            if commands[spot] != 'out':
                waiting.extend([at for at in spots_of(program) if at[0] == spot[0] and comes_next(program, spot, at)])
    return found


def comes_next(program, spot, at):
    """Whether a frame can arrive at a line right behind an arrival at another, whatever it calls."""
    others = tuple([other for other in spots_of(program) if other[0] == spot[0]])
    return at in rest_with_own_cut(program, spot, others)


def rest_with_own_cut(program, spot, others):
    """The own lines that come next: those of a copy of the function, at whose lines nothing is chosen."""
    name = spot[0]
    calls, ways, handlers = dict(program)[name][spot[1]]
    many = len(dict(program)[name])
    dead = tuple([(('',), (BACK,), ()) for _ in range(many)])
    copy = ('copy', dead + ((calls, ways, handlers),))
    own = tuple([('copy', index) for index in range(many)])
    touched, _ = rest_of(program + (copy,), ('copy', many), cut=own)
    return {(name, index) for own, index in touched if own == 'copy'}


class PaperTest(Checks):

    def test_of_the_document(self):
        self.gives(('most', ROWS), stops_paper, (F, G), W)
        self.gives(3, lets_stops, (F, G), W, ('most', ROWS))
        self.raises(InvalidPaper, ('quiet', -1), lets_stops, AGAIN, (),
                    ('ring', ((('again', 0),), (), ()), ((('again', 0),), (), (1,))))

    def test_by_name(self):
        self.gives(('most', ROWS), stops_paper, program=(F, G), wished=W)
        self.gives(3, lets_stops, program=(F, G), wished=W, thing=('most', ROWS))
        self.gives('ring', lambda: stops_paper(program=PROGRAM, wished=W)[0])

    def test_each_paper_is_accepted(self):
        met = {'most': 0, 'ring': 0}
        for program, wished in cases():
            paper, most = stops_paper(program, wished), most_stops(program, wished)
            met[paper[0]] += 1
            self.assertEqual(paper[0], 'ring' if most is None else 'most')
            self.gives(most, lets_stops, program, wished, paper)
        self.assertGreater(min(met.values()), 50)

    def test_a_ring_has_as_many_stops_as_one_wishes(self):
        for program, wished in cases():
            paper = stops_paper(program, wished)
            if paper[0] != 'ring':
                continue
            packed, (frames, lives, items) = paper[1], paper[2]
            run = written_out(program, packed)
            around = written_out(program, (frames, lives, items))
            if len(run) + 5 * len(around) < 400:
                stops = stops_of(program, run + 5 * around, Furthest(program, wished))
                self.assertGreaterEqual(len(stops), 6)

    def test_rows_are_those_that_are_stated(self):
        for program, wished in cases():
            word, rows = stops_paper(program, wished)[:2]
            if word == 'most':
                pairs = [(spot, end) for spot in sorted(stops_at(program, wished)) for end in (
                    (),) + rest_of(program, spot)[1]]
                self.assertEqual([row[:2] for row in rows], pairs)

    def test_numbers_against_all_rests(self):
        met = 0
        for program, wished in cases():
            paper = stops_paper(program, wished)
            for spot, end, number in paper[1] if paper[0] == 'most' else ():
                told = Stops(program, (spot,), lambda at: furthest(program, wished, at), 5, 60)
                seen = told.numbers.get(end, (0, 0))[1]
                self.assertGreaterEqual(number, seen)
                if told.is_all:
                    self.assertEqual(number, seen)
                    met += number > 1
        self.assertGreater(met, 100)

    def test_more_than_runs_can_show(self):
        program = chain('abcdefgh', 12)
        paper = stops_paper(program, spots_of(program))
        self.gives(most_stops(program, spots_of(program)), lets_stops, program, spots_of(program), paper)
        self.assertEqual(len(paper[1]), 2 * 96)


    def test_a_ring_at_a_quiet_spot_is_not_enough(self):
        program = (('b', ((('a',), (0, BACK), ()),)), ('a', ((('',), (0, BACK), ()),)))
        paper = stops_paper(program, (('b', 0),))
        self.assertEqual(paper[2][0], (('b', 0),))
        self.gives(None, lets_stops, program, (('b', 0),), paper)
        self.raises(InvalidPaper, ('quiet', -1), lets_stops, program, (('b', 0),),
                    ('ring', ((('b', 0),), (), (0,)), ((('a', 0),), (), (0, 0))))

    def test_a_ring_that_no_run_comes_to_is_not_taken(self):
        program = (('b', ((('',), (0, BACK), ()),)), ('a', ((('',), (0, BACK), ()),)))
        wished = (('a', 0), ('b', 0))
        self.gives(('ring', ((('b', 0),), (), ()), ((('b', 0),), (), (0, 0))), stops_paper, program, wished)


class ShapeTest(Checks):

    def test_any_value(self):
        for thing in anything() + [
                ('most',), ('most', [],), ('most', ROWS, 0), ['most', ROWS], ('Most', ROWS), ('most', ROWS[0]),
                ('ring',), ('ring', RUN), ('ring', RUN, AROUND, 0), ['ring', RUN, AROUND], ('most', RUN, AROUND),
                (True, RUN, AROUND), (('most', ROWS),), nested(29, ('most', 0)), ('', (), ()), ('most', None)]:
            self.raises(InvalidPaper, ('shape', -1), lets_stops, PROGRAM, W, thing)
            self.raises(InvalidPaper, ('shape', -1), lets_stops, program=(F, G), wished=W, thing=thing)

    def test_rows(self):
        for thing in anything() + [
                (('f', 0), (), -1), (('f', 0), (), True), (('f', 0), (), None), (('f', 0), ()), (('f', 0), (), 1, 1),
                [('f', 0), (), 1], (['f', 0], (), 1), (('f', True), (), 1), ('f', (), 1), (('f', 0), [], 1),
                (('f', 0), ('fail',), 1), (('f', 0), 0, 1), (('f', 0), ['back'], 1), (('f', 0), None, 1),
                (('f', 0), ('fail', 'Bad'), 1), (('', 0), (), 1), (('f', 0), 'back', 1), (('f', 0), ((),), 1)]:
            self.raises(InvalidPaper, ('shape', -1), lets_stops, (F, G), W, ('most', (thing,)))
            self.raises(InvalidPaper, ('shape', -1), lets_stops, (F, G), W, ('most', ROWS + (thing,)))


class MostTest(Checks):

    def test_rows(self):
        cases_of_rows = [ROWS[:-1], ROWS[1:], ROWS + ROWS[-1:], ROWS[::-1], (), ROWS[:3] + ROWS[4:],
                         ROWS[:2] + (ROWS[2],) * 2 + ROWS[3:], (ROWS[1], ROWS[0]) + ROWS[2:],
                         ROWS + ((('main', 0), (), 1),), ROWS[:2] + ((('f', 0), ('fail', 'x'), 1),) + ROWS[3:]]
        for rows in cases_of_rows:
            self.raises(InvalidPaper, ('rows', -1), lets_stops, (F, G), W, ('most', rows))

    def test_numbers(self):
        for k, row in enumerate(ROWS):
            for number in (0, row[2] - 1, row[2] + 1, 10 ** 59):
                rows = ROWS[:k] + (row[:2] + (number,),) + ROWS[k + 1:]
                self.raises(InvalidPaper, ('number', k), lets_stops, (F, G), W, ('most', rows))
        # Of two the first; rows that are not those stated come first.
        wrong = tuple([row[:2] + (9,) for row in ROWS])
        self.raises(InvalidPaper, ('number', 0), lets_stops, (F, G), W, ('most', wrong))
        self.raises(InvalidPaper, ('number', 3), lets_stops, (F, G), W, ('most', ROWS[:3] + wrong[3:]))
        self.raises(InvalidPaper, ('rows', -1), lets_stops, (F, G), W, ('most', wrong[:-1]))

    def test_rows_that_have_no_greatest_number(self):
        # f may go round before it ends, or call h, which goes round and never ends.
        program = (('f', ((('', 'h'), (1,), ()), (('',), (BACK,), ()))), ('h', ((('',), (0,), ()),)))
        wished = (('h', 0),)
        self.gives(None, most_stops, program, wished)
        rows = ((('f', 0), (), 7), (('f', 0), BACK, 2), (('f', 1), (), 1), (('f', 1), BACK, 1), (('h', 0), (), 7))
        self.raises(InvalidPaper, ('number', 0), lets_stops, program, wished, ('most', rows))
        # Behind main 2, which ends in any case, there is a greatest number; behind main 0 and main 1 there is none.
        rows = tuple([(spot, end, 1) for spot, end in (
            (('f', 0), ()), (('f', 0), BACK), (('f', 0), BAD), (('f', 1), ()), (('f', 1), BACK), (('g', 0), ()),
            (('g', 0), BACK), (('main', 0), ()), (('main', 0), BACK), (('main', 1), ()), (('main', 1), BACK),
            (('main', 2), ()), (('main', 2), BACK))])
        good = tuple([row[:2] + (number,) for row, number in zip(rows, (3, 3, 1, 2, 2, 1, 1, 8, 8, 8, 8, 2, 2))])
        self.raises(InvalidPaper, ('number', 0), lets_stops, PROGRAM, W, ('most', rows))
        self.raises(InvalidPaper, ('number', 7), lets_stops, PROGRAM, W, ('most', good))
        self.raises(InvalidPaper, ('number', 7), lets_stops, PROGRAM, W, ('most', good[:11] + rows[11:]))
        self.raises(InvalidPaper, ('rows', -1), lets_stops, PROGRAM, W, ('most', good[:-1]))

    def test_a_ring_behind_which_an_end_cannot_come_does_not_count_for_it(self):
        program = (('f', ((('', 'h'), (1,), ()), (('',), (BACK,), ()))), ('h', ((('',), (0,), ()),)))
        told = Stops(program, (('f', 0),), lambda at: furthest(program, (('h', 0),), at), 6)
        self.assertEqual(told.numbers[BACK], (2, 2))
        self.assertGreater(told.numbers[()][1], 5)

    def test_changed_papers(self):
        tried = 0
        for seed, (program, wished) in enumerate(cases()):
            chance = Random(seed)
            paper = stops_paper(program, wished)
            if paper[0] == 'most':
                k = chance.randrange(len(paper[1]))
                row = paper[1][k]
                rows = paper[1][:k] + (row[:2] + (row[2] + chance.choice([1, -1]),),) + paper[1][k + 1:]
                self.raises(InvalidPaper, ('number', k), lets_stops, program, wished, ('most', rows))
                self.raises(InvalidPaper, ('rows', -1), lets_stops, program, wished, ('most', paper[1][:k] + paper[1][k + 1:]))
                tried += 1
        self.assertGreater(tried, 100)


class RingTest(Checks):

    def test_any_ring(self):
        wished = (('main', 1),)
        self.assertNotIn(('main', 1), quiet_spots(PROGRAM, wished))
        self.gives(None, lets_stops, PROGRAM, wished, ('ring', RUN, AROUND))
        self.gives(None, lets_stops, program=PROGRAM, wished=wished, thing=('ring', RUN, (AROUND[0], (), (
            0, 1, 0, 0, 0, 0, 0, 0))))
        # Longer than needed.
        twice = joined(PROGRAM, AROUND, AROUND)
        self.gives(None, lets_stops, PROGRAM, wished, ('ring', joined(PROGRAM, RUN, AROUND), twice))
        # Deeper: the frame stands at its spot again in a frame above.
        self.gives(None, lets_stops, AGAIN, (('again', 1),),
                   ('ring', ((('again', 0),), (), ()), ((('again', 0),), (), (1,))))
        self.gives(None, lets_stops, TWICE, (('twice', 1),),
                   ('ring', ((('twice', 0),), (), (1, 1)), ((('twice', 0),), (), (0, 0, 1))))

    def test_the_errors_of_lets_packed(self):
        things = anything() + [(START, (('g', (0,)),), ()), (START, (('h', ()),), ()), (START, (), (7,)),
                               ((('f', 2),), (), ()), (START, (), [0])]
        for thing in things:
            fields = fault_of_packed(PROGRAM, thing)
            self.assertIsNotNone(fields)
            self.raises(InvalidPaper, fields, lets_stops, PROGRAM, (('main', 1),), ('ring', thing, thing))
            self.raises(InvalidPaper, fields, lets_stops, PROGRAM, (('main', 1),), ('ring', thing, AROUND))
            self.raises(InvalidPaper, fields, lets_stops, PROGRAM, (('main', 1),), ('ring', RUN, thing))

    def test_frames_and_arrival_of_the_run(self):
        wished = (('main', 1),)
        for frames in ((('main', 1),), (('f', 0),), (('main', 0), ('f', 0))):
            self.raises(InvalidPaper, ('frames', 0), lets_stops, PROGRAM, wished, ('ring', (frames, (), ()), AROUND))
        for items in ((0, 0), (0, 0, 0, 0), (0, 0, 1, 0), (0, 0, 1, 0, 0), RUN[2][:2]):
            self.raises(InvalidPaper, ('arrival', 0), lets_stops, PROGRAM, wished, ('ring', (START, RUN[1], items), AROUND))
        # All that is told of the run comes first.
        self.raises(InvalidPaper, ('frames', 0), lets_stops, PROGRAM, wished, ('ring', ((('main', 1),), (), ()), None))
        self.raises(InvalidPaper, ('arrival', 0), lets_stops, PROGRAM, wished, ('ring', (START, (), (0, 0)), None))

    def test_frames_and_arrival_of_the_rest(self):
        wished = (('main', 1),)
        for rest in ((START, (), ()), ((('main', 2),), (), ()), ((('main', 0), ('f', 0)), (), (0, 0)), RUN):
            self.raises(InvalidPaper, ('frames', 1), lets_stops, PROGRAM, wished, ('ring', RUN, rest))
        for items in ((), (0,), (0, 1), (0, 0), (0, 1, 0), (0, 1, 0, ('life', 0)), (0, 1, 0, 0, 0)):
            self.raises(InvalidPaper, ('arrival', 1), lets_stops, PROGRAM, wished,
                        ('ring', RUN, (AROUND[0], AROUND[1], items)))

    def test_quiet(self):
        self.raises(InvalidPaper, ('quiet', -1), lets_stops, PROGRAM, (), ('ring', RUN, AROUND))
        self.raises(InvalidPaper, ('quiet', -1), lets_stops, PROGRAM, (('zz', 0),), ('ring', RUN, AROUND))
        self.raises(InvalidPaper, ('frames', 1), lets_stops, PROGRAM, (), ('ring', RUN, RUN))
        self.raises(InvalidPaper, ('arrival', 1), lets_stops, PROGRAM, (), ('ring', RUN, (AROUND[0], (), (0,))))

    def test_frames_that_never_end(self):
        wished = (('loops', 0),)
        run = ((('begins', 0),), (), (1,))
        self.gives(None, lets_stops, STUCK, wished, ('ring', run, ((('loops', 0),), (), (0, 0))))
        self.gives('ring', lambda: stops_paper(STUCK, wished)[0])
        self.gives('most', lambda: stops_paper(RING, (('lone', 0),))[0])


if __name__ == '__main__':
    unittest.main()
