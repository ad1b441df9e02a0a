import unittest
from random import Random

from outandover.errors import InvalidPaper
from outandover.programchanges import with_line
from outandover.programparts import line_at, spots_of
from outandover.tablechecker import lets_table
from outandover.tables import least_table
from checks import Checks
from samples import (
    AGAIN, BACK, F, FAULTS, G, PROGRAM, RING, SAMPLES, STUCK, TWICE, anything, cuts_of, nested, random_program,
)

BAD = ('fail', 'bad')
ROW_F = ('f', (0, 1), (BACK, BAD), (('f', 0), ('f', 1), ('g', 0)))
ROW_G = ('g', (0,), (BACK,), (('g', 0),))
ROW_MAIN = ('main', (0, 1, 2), (BACK,), (('f', 0), ('f', 1), ('g', 0), ('main', 0), ('main', 1), ('main', 2)))
TABLE = (ROW_F, ROW_G, ROW_MAIN)


def changed(k, part, worth, table=TABLE):
    """The table with another worth as this part of row k."""
    row = list(table[k])
    row[part] = worth
    return table[:k] + (tuple(row),) + table[k + 1:]


def fault_by_rules(program, table, cut):
    """The first fault of a table of the right form, by a second reading of the document; None if it is closed."""
    if tuple([row[0] for row in table]) != tuple(sorted(dict(program))):
        return ('names', -1)
    rows = {row[0]: row for row in table}
    for k, (name, lines, ends, touched) in enumerate(table):
        if 0 not in lines or [index for index in lines if index >= len(dict(program)[name])]:
            return ('lines', k)
        for index in lines:
            spot = (name, index)
            if spot not in touched:
                return ('touched', spot)
            if spot in cut:
                continue
            calls, ways, handlers = line_at(program, spot)
            outcomes = []
            for call in calls:
                if call and not set(rows[call][3]) <= set(touched):
                    return ('inside', spot)
                outcomes.extend([BACK] if not call else rows[call][2])
            come = []
            for outcome in outcomes:
                come.extend(ways if outcome == BACK else [outcome])
            come = [to if isinstance(to, int) or to == BACK else handled(handlers, to) for to in come]
            if [to for to in come if isinstance(to, int) and to not in lines]:
                return ('ways', spot)
            if [to for to in come if isinstance(to, tuple) and to not in ends]:
                return ('ends', spot)
    return None


def handled(handlers, end):
    """The index of the handler of an end, or the end."""
    for kind, index in handlers:
        if kind in ('', end[1]):
            return index
    return end


class ShapeTest(Checks):

    def test_any_value(self):
        for thing in anything():
            word = ('names', -1) if thing == () and isinstance(thing, tuple) else ('shape', -1)
            self.raises(InvalidPaper, word, lets_table, PROGRAM, thing)
            self.raises(InvalidPaper, word, lets_table, program=PROGRAM, thing=thing, cut=(('f', 0),))

    def test_rows(self):
        for thing in anything():
            self.raises(InvalidPaper, ('shape', -1), lets_table, PROGRAM, TABLE[:2] + (thing,))
            self.raises(InvalidPaper, ('shape', -1), lets_table, PROGRAM, (thing,) + TABLE[1:])

    def test_parts_of_rows(self):
        sets = [repr(()), repr((('f', 0),)), repr(((('f', 0),),)), repr((0, 1, 2)), repr((0,))]
        for thing in anything():
            for part in (0, 1, 2, 3):
                if part == 0 and repr(thing) in [repr(word) for word in ('f', 'main', 'again', 'step')]:
                    continue
                if part > 0 and (repr(thing) in sets or isinstance(thing, tuple) and len(thing) == 5000):
                    continue
                if part == 3 and repr(thing) == repr((('f', 0),)):
                    continue
                self.raises(InvalidPaper, ('shape', -1), lets_table, PROGRAM, changed(0, part, thing))

    def test_sets_that_are_none(self):
        for part, worths in (
                (1, [(1, 0), (0, 0), (0, True), [0, 1], (0, -1), (0, '1'), (False, 1), (0, (1,)), None, 0]),
                (2, [(BAD, BACK), (BACK, BACK), [BACK], (BACK, ('fail', '')), (BACK, ['fail', 'bad']), BACK, (0,),
                     (('back', 'f'),), (('fail',),), ('back',), (('fail', 'Bad'),)]),
                (3, [(('f', 1), ('f', 0)), (('f', 0), ('f', 0)), [('f', 0)], (('f', True),), (('f', 0), ['f', 1]),
                     (('', 0),), ('f', 0), (('f', -1),)])):
            for worth in worths:
                for k in (0, 1, 2):
                    self.raises(InvalidPaper, ('shape', -1), lets_table, PROGRAM, changed(k, part, worth))

    def test_rows_too_short_or_too_long(self):
        for row in (ROW_G[:3], ROW_G + ((),), list(ROW_G), (), nested(3)):
            self.raises(InvalidPaper, ('shape', -1), lets_table, PROGRAM, (ROW_F, row, ROW_MAIN))
        self.raises(InvalidPaper, ('shape', -1), lets_table, PROGRAM, list(TABLE))

    def test_shape_ahead_of_names(self):
        self.raises(InvalidPaper, ('shape', -1), lets_table, PROGRAM, (ROW_G, ROW_F, ROW_MAIN, None))


class NamesTest(Checks):

    def test_left_out_doubled_turned_about(self):
        for table in ((), (ROW_F,), (ROW_F, ROW_G), (ROW_G, ROW_F, ROW_MAIN), (ROW_MAIN, ROW_F, ROW_G),
                      (ROW_F, ROW_F, ROW_G, ROW_MAIN), TABLE + (ROW_MAIN,), TABLE + (('zz', (0,), (), (('zz', 0),)),),
                      changed(1, 0, 'h'), changed(1, 0, 'f')):
            self.raises(InvalidPaper, ('names', -1), lets_table, PROGRAM, table)

    def test_names_ahead_of_lines(self):
        self.raises(InvalidPaper, ('names', -1), lets_table, PROGRAM, changed(0, 1, (), TABLE[:2]))


class RowsTest(Checks):

    def test_closed(self):
        self.gives(6, lets_table, PROGRAM, TABLE)
        self.gives(6, lets_table, program=PROGRAM, thing=TABLE, cut=())
        with self.assertRaises(TypeError):
            lets_table(PROGRAM, TABLE, ())

    def test_lines(self):
        for k in (0, 1, 2):
            for lines in ((), (1,), (0, 3), (0, 1, 2, 3), (0, 10 ** 59)):
                self.raises(InvalidPaper, ('lines', k), lets_table, PROGRAM, changed(k, 1, lines))

    def test_touched(self):
        self.raises(InvalidPaper, ('touched', ('f', 0)), lets_table, PROGRAM, changed(0, 3, ()))
        self.raises(InvalidPaper, ('touched', ('f', 1)), lets_table, PROGRAM, changed(0, 3, (('f', 0), ('g', 0))))
        self.raises(InvalidPaper, ('touched', ('main', 2)), lets_table, PROGRAM, changed(2, 3, ROW_MAIN[3][:-1]))
        # A spot that is cut has to be touched, too.
        self.raises(InvalidPaper, ('touched', ('g', 0)), lets_table, PROGRAM, changed(1, 3, ()), cut=(('g', 0),))

    def test_inside(self):
        self.raises(InvalidPaper, ('inside', ('f', 1)), lets_table, PROGRAM, changed(0, 3, (('f', 0), ('f', 1))))
        self.raises(InvalidPaper, ('inside', ('main', 0)), lets_table, PROGRAM, changed(2, 3, ROW_MAIN[3][1:]))
        self.raises(InvalidPaper, ('inside', ('main', 0)), lets_table, PROGRAM,
                    changed(0, 3, ROW_F[3] + (('zz', 7),)))

    def test_ways(self):
        self.raises(InvalidPaper, ('ways', ('f', 0)), lets_table, PROGRAM, changed(0, 1, (0,)))
        self.raises(InvalidPaper, ('ways', ('main', 0)), lets_table, PROGRAM, changed(2, 1, (0, 1)))
        self.raises(InvalidPaper, ('ways', ('main', 0)), lets_table, PROGRAM, changed(2, 1, (0, 2)))
        # Without line 1 nothing leads back to line 0, but line 0 still leads to line 1.
        self.raises(InvalidPaper, ('ways', ('main', 0)), lets_table, PROGRAM, changed(2, 1, (0,)))

    def test_ends(self):
        self.raises(InvalidPaper, ('ends', ('f', 0)), lets_table, PROGRAM, changed(0, 2, (BACK,)))
        self.raises(InvalidPaper, ('ends', ('f', 1)), lets_table, PROGRAM, changed(0, 2, (BAD,)))
        self.raises(InvalidPaper, ('ends', ('g', 0)), lets_table, PROGRAM, changed(1, 2, ()))
        self.raises(InvalidPaper, ('ends', ('main', 1)), lets_table, PROGRAM, changed(2, 2, (('fail', 'zz'),)))

    def test_ends_of_called_functions(self):
        # By its row f fails with other kinds: line 0 of main has a handler for all, line 1 of f none.
        table = changed(0, 2, (BACK, BAD, ('fail', 'zz')))
        self.gives(6, lets_table, PROGRAM, table)
        table = changed(1, 2, (BACK, ('fail', 'zz')))
        self.raises(InvalidPaper, ('ends', ('f', 1)), lets_table, PROGRAM, table)
        table = changed(0, 2, (BACK, BAD, ('fail', 'zz')), table)
        self.raises(InvalidPaper, ('ends', ('main', 2)), lets_table, PROGRAM, table)
        self.gives(6, lets_table, PROGRAM, changed(2, 2, (BACK, ('fail', 'zz')), table))

    def test_two_faults_at_once(self):
        cases = [
            (('lines', 0), changed(0, 1, (1,), changed(1, 1, ()))),
            (('ends', ('f', 0)), changed(0, 2, (), changed(1, 1, ()))),
            (('lines', 1), changed(1, 1, (), changed(2, 3, ()))),
            (('touched', ('f', 0)), changed(0, 3, (), changed(0, 2, ()))),
            (('ways', ('f', 0)), changed(0, 1, (0,), changed(0, 2, ()))),
            (('inside', ('main', 0)), changed(2, 3, ROW_MAIN[3][1:], changed(2, 1, (0,)))),
            (('touched', ('main', 0)), changed(2, 3, ROW_MAIN[3][:3], changed(2, 1, (0,)))),
            (('ends', ('f', 0)), changed(0, 2, (), changed(0, 3, (('f', 0), ('f', 1))))),
            (('ways', ('f', 0)), changed(0, 1, (0,), changed(0, 3, (('f', 0), ('f', 1))))),
            (('lines', 0), changed(0, 1, (0, 2), changed(0, 3, ()))),
        ]
        for fields, table in cases:
            self.raises(InvalidPaper, fields, lets_table, PROGRAM, table)

    def test_more_than_the_least(self):
        more = changed(1, 3, ROW_G[3] + (('zz', 0),))
        self.raises(InvalidPaper, ('inside', ('f', 1)), lets_table, PROGRAM, more)
        more = changed(0, 3, ROW_F[3] + (('zz', 0),), more)
        self.raises(InvalidPaper, ('inside', ('main', 0)), lets_table, PROGRAM, more)
        more = changed(2, 3, ROW_MAIN[3] + (('zz', 0),), more)
        self.gives(7, lets_table, PROGRAM, more)
        # main may touch spots that the functions it calls do not touch.
        self.gives(8, lets_table, PROGRAM, changed(2, 3, ROW_MAIN[3] + (('main', 3), ('zz', 10 ** 59))))

    def test_lines_that_no_frame_arrives_at(self):
        program = (('f', ((('',), (BACK,), ()), (('f',), (0, ('fail', 'y')), ()))),)
        least = (('f', (0,), (BACK,), (('f', 0),)),)
        self.gives(1, lets_table, program, least)
        self.raises(InvalidPaper, ('touched', ('f', 1)), lets_table, program, changed(0, 1, (0, 1), least))
        more = changed(0, 3, (('f', 0), ('f', 1)), changed(0, 1, (0, 1), least))
        self.raises(InvalidPaper, ('ends', ('f', 1)), lets_table, program, more)
        self.gives(2, lets_table, program, changed(0, 2, (BACK, ('fail', 'y')), more))

    def test_a_ring_may_hold_what_no_frame_brings_into_it(self):
        ring = (('a', ((('b',), (BACK,), ()),)), ('b', ((('a',), (BACK,), ()),)))
        least = (('a', (0,), (), (('a', 0), ('b', 0))), ('b', (0,), (), (('a', 0), ('b', 0))))
        self.gives(2, lets_table, ring, least)
        more = changed(1, 2, (BACK,), changed(0, 2, (BACK,), least))
        self.gives(2, lets_table, ring, more)
        self.raises(InvalidPaper, ('ends', ('b', 0)), lets_table, ring, changed(0, 2, (BACK,), least))

    def test_long_tables(self):
        spots = tuple(sorted(set(ROW_MAIN[3] + tuple([('z', k) for k in range(900)]))))
        self.gives(906, lets_table, PROGRAM, tuple([row[:3] + (spots,) for row in TABLE]))


class CutTest(Checks):

    def test_no_spot_of_the_program(self):
        self.gives(6, lets_table, PROGRAM, TABLE, cut=(('g', 1), ('zz', 0)))
        self.raises(InvalidPaper, ('ends', ('g', 0)), lets_table, PROGRAM, changed(1, 2, ()), cut=(('g', 1),))

    def test_line_0_cut(self):
        table = (('f', (0,), (), (('f', 0),)), ROW_G, ('main', (0,), (), (('f', 0), ('main', 0))))
        self.gives(3, lets_table, PROGRAM, table, cut=(('f', 0),))
        self.raises(InvalidPaper, ('ways', ('f', 0)), lets_table, PROGRAM, table)
        # What is closed with fewer cuts is closed with more of them.
        self.gives(6, lets_table, PROGRAM, TABLE, cut=(('f', 0),))

    def test_all_spots_cut(self):
        for program in SAMPLES:
            rows = tuple([(name, (0,), (), ((name, 0),)) for name in sorted(dict(program))])
            self.gives(len(rows), lets_table, program, rows, cut=spots_of(program))
            self.gives(len(rows), lets_table, program, rows, cut=tuple(sorted(spots_of(program) + (('zz', 9),))))

    def test_each_word_where_nothing_is_cut(self):
        table = (('f', (0,), (), (('f', 0),)), ('g', (0,), (), (('g', 0),)), ('main', (0,), (), (('main', 0),)))
        self.raises(InvalidPaper, ('ways', ('f', 0)), lets_table, PROGRAM, table)
        self.raises(InvalidPaper, ('ends', ('g', 0)), lets_table, PROGRAM, table, cut=(('f', 0),))
        self.raises(InvalidPaper, ('inside', ('main', 0)), lets_table, PROGRAM, table, cut=(('f', 0), ('g', 0)))
        self.gives(3, lets_table, PROGRAM, table, cut=(('f', 0), ('g', 0), ('main', 0)))


class ManyTablesTest(Checks):

    def test_the_least_table_is_closed(self):
        for program in SAMPLES + tuple([random_program(seed) for seed in range(60)]):
            for cut in cuts_of(program):
                table = least_table(program, cut=cut)
                touched = {spot for row in table for spot in row[3]}
                self.gives(len(touched), lets_table, program, table, cut=cut)

    def test_changed_tables(self):
        found = {}
        for seed in range(1500):
            chance = Random(seed)
            program = (SAMPLES + tuple([random_program(seed) for seed in range(30)]))[seed % 38]
            cut = chance.choice(cuts_of(program))
            table = least_table(program, cut=chance.choice([(), cut]))
            for _ in range(chance.randint(1, 3)):
                table = changed_by_chance(table, chance)
            fault = fault_by_rules(program, table, cut)
            found[fault and fault[0]] = found.get(fault and fault[0], 0) + 1
            if fault is None:
                self.gives(len({spot for row in table for spot in row[3]}), lets_table, program, table, cut=cut)
            else:
                self.raises(InvalidPaper, fault, lets_table, program, table, cut=cut)
        self.assertEqual(len(found), 7)
        self.assertGreater(min(found.values()), 15)

    def test_a_closed_table_has_all_of_the_least_one(self):
        tried = 0
        for seed in range(1000):
            chance = Random(seed)
            program = (SAMPLES + tuple([random_program(seed) for seed in range(30)]))[seed % 38]
            cut = chance.choice(cuts_of(program))
            least = least_table(program, cut=cut)
            table = least
            for _ in range(chance.randint(1, 4)):
                table = changed_by_chance(table, chance)
            if fault_by_rules(program, table, cut) is None:
                lets_table(program, table, cut=cut)
                tried += table != least
                for row, own in zip(table, least):
                    for part in (1, 2, 3):
                        self.assertTrue(set(own[part]) <= set(row[part]))
        self.assertGreater(tried, 60)

    def test_after_a_change_of_the_program(self):
        further = with_line(PROGRAM, ('g', 0), (('', 'g'), (BACK, ('fail', 'zz')), ()))
        self.raises(InvalidPaper, ('ends', ('g', 0)), lets_table, further, TABLE)
        self.gives(6, lets_table, further, least_table(further))

    def test_samples(self):
        for program, many in ((AGAIN, 2), (TWICE, 2), (RING, 6), (FAULTS, 8), (STUCK, 4), ((F, G), 3), ((G,), 1)):
            self.gives(many, lets_table, program, least_table(program))


def changed_by_chance(table, chance):
    """The table with an element more or less somewhere."""
    k, part = chance.randrange(len(table)), chance.choice([1, 2, 3, 3])
    more = {1: [0, 1, 2, 3], 2: [BACK, ('fail', 'x'), ('fail', 'y'), ('fail', 'bad')],
            3: [(name, index) for name in ('a', 'b', 'f', 'g', 'main', 'zz') for index in (0, 1)]}[part]
    worth = set(table[k][part])
    if chance.random() < 0.5 and worth:
        worth.discard(chance.choice(sorted(worth)))
    else:
        worth.add(chance.choice(more))
    if chance.random() < 0.02 and len(table) > 1:
        return table[:k] + table[k + 1:]
    return changed(k, part, tuple(sorted(worth)), table)


if __name__ == '__main__':
    unittest.main()
