import unittest

from outandover.errors import NotUsable
from outandover.programchanges import renamed, with_function, with_line
from outandover.programparts import callers_of, line_at, spots_of
from outandover.tables import inside_of, least_table, rest_of
from checks import Checks
from oracle import machine_behind, table_by_rules
from samples import (
    AGAIN, BACK, FAULTS, G, PROGRAM, RING, SAMPLES, STUCK, TWICE, anything, cuts_of, random_program, random_run,
)

ROW_F = ('f', (0, 1), (BACK, ('fail', 'bad')), (('f', 0), ('f', 1), ('g', 0)))
ROW_G = ('g', (0,), (BACK,), (('g', 0),))
ROW_MAIN = ('main', (0, 1, 2), (BACK,), (('f', 0), ('f', 1), ('g', 0), ('main', 0), ('main', 1), ('main', 2)))


def programs():
    return SAMPLES + tuple([random_program(seed) for seed in range(60)])


def rows_by_rules(program, cut):
    """least_table by the oracle."""
    rows = table_by_rules(program, cut)
    return tuple([(name,) + tuple([tuple(sorted(part)) for part in rows[name]]) for name in sorted(rows)])


def with_entry(program, spot):
    """The program with a function entry whose line 0 is the line at the spot, and whose line k + 1 is line k."""
    lines = dict(program)[spot[0]]
    moved = tuple([moved_line(line) for line in (lines[spot[1]],) + lines])
    return program + (('entry', moved),)


def moved_line(line):
    calls, ways, handlers = line
    ways = tuple([way + 1 if isinstance(way, int) else way for way in ways])
    return (calls, ways, tuple([(kind, index + 1) for kind, index in handlers]))


def rest_by_rules(program, spot, cut):
    """rest_of by the oracle: the row of a function that begins at the looked-at line, which is not cut."""
    name = spot[0]
    moved = [('entry', index + 1) for own, index in cut if own == name]
    _, ends, touched = table_by_rules(with_entry(program, spot), tuple(cut) + tuple(moved))['entry']
    touched = {(name, index - 1) if own == 'entry' else (own, index) for own, index in touched if (own, index) != (
        'entry', 0)}
    return (tuple(sorted(touched)), tuple(sorted(ends)))


class LeastTableTest(Checks):

    def test_of_the_document(self):
        self.gives((ROW_F, ROW_G, ROW_MAIN), least_table, PROGRAM)
        self.gives((ROW_F, ROW_G, ROW_MAIN), least_table, program=PROGRAM, cut=())

    def test_cut_stands_behind_a_star(self):
        with self.assertRaises(TypeError):
            least_table(PROGRAM, ())
        for function in (rest_of, inside_of):
            with self.assertRaises(TypeError):
                function(PROGRAM, ('f', 0), ())

    def test_line_0_cut(self):
        found = least_table(PROGRAM, cut=(('f', 0),))
        self.same(('f', (0,), (), (('f', 0),)), found[0])
        # Nothing comes back to main, whose lines 1 and 2 no frame reaches then.
        self.same(('main', (0,), (), (('f', 0), ('main', 0))), found[2])
        self.same(ROW_G, found[1])

    def test_a_later_line_cut(self):
        found = least_table(PROGRAM, cut=(('f', 1),))
        self.same(('f', (0, 1), (('fail', 'bad'),), (('f', 0), ('f', 1))), found[0])
        self.same(('main', (0, 2), (BACK,), (('f', 0), ('f', 1), ('g', 0), ('main', 0), ('main', 2))), found[2])

    def test_all_spots_cut(self):
        for program in SAMPLES:
            rows = tuple([(name, (0,), (), ((name, 0),)) for name in sorted(dict(program))])
            self.gives(rows, least_table, program, cut=spots_of(program))

    def test_spots_that_the_program_does_not_have(self):
        for program in SAMPLES:
            self.gives(least_table(program), least_table, program, cut=(('main', 99), ('zz', 0)))

    def test_functions_that_nothing_calls(self):
        rows = dict([(row[0], row) for row in least_table(RING)])
        self.same(('lone', (0,), (BACK,), (('lone', 0),)), rows['lone'])
        self.same(['a', 'b', 'c', 'lone'], list(rows))

    def test_rings_of_calls(self):
        rows = dict([(row[0], row) for row in least_table(RING)])
        ring = tuple([spot for spot in spots_of(RING) if spot[0] != 'lone'])
        for name in 'abc':
            self.same(ring, rows[name][3])
        self.same((BACK, ('fail', 'x')), rows['b'][2])
        self.same((BACK, ('fail', 'x')), rows['a'][2])
        # A fault of a in line 0 of c is handled there.
        self.same((BACK,), rows['c'][2])

    def test_frames_that_never_end(self):
        rows = dict([(row[0], row) for row in least_table(STUCK)])
        self.same(('loops', (0,), (), (('loops', 0),)), rows['loops'])
        self.same(('waits', (0,), (), (('loops', 0), ('waits', 0))), rows['waits'])
        self.same(('begins', (0, 1), (), (('begins', 0), ('begins', 1), ('loops', 0), ('waits', 0))), rows['begins'])

    def test_a_ring_without_a_way_out(self):
        ring = (('a', ((('b',), (BACK,), (('', 1),)), (('',), (BACK,), ()))), ('b', ((('a',), (BACK, ('fail', 'x')), ()),)))
        self.gives((('a', (0,), (), (('a', 0), ('b', 0))), ('b', (0,), (), (('a', 0), ('b', 0)))), least_table, ring)

    def test_handlers(self):
        rows = dict([(row[0], row) for row in least_table(FAULTS)])
        # The handler of blue stands behind "", so line 3 is reached from line 4 alone.
        self.same((0, 1, 2, 3, 4), rows['top'][1])
        self.same((BACK, ('fail', 'last'), ('fail', 'red')), rows['top'][2])
        self.same((BACK, ('fail', 'blue'), ('fail', 'red')), rows['mid'][2])
        shadowed = with_line(FAULTS, ('top', 4), (('',), (BACK,), ()))
        self.same((0, 1, 2, 4), dict([(row[0], row) for row in least_table(shadowed)])['top'][1])

    def test_lines_that_nothing_leads_to(self):
        program = (('f', ((('',), (BACK,), (('x', 1),)), (('f',), (1, ('fail', 'y')), ()))),)
        self.gives((('f', (0,), (BACK,), (('f', 0),)),), least_table, program)

    def test_against_the_oracle(self):
        for program in programs():
            for cut in cuts_of(program):
                self.gives(rows_by_rules(program, cut), least_table, program, cut=cut)

    def test_each_frame_of_a_run_keeps_to_its_row(self):
        for seed in range(200):
            program = programs()[seed % 60]
            rows = dict([(row[0], row) for row in least_table(program)])
            machine = machine_behind(program, random_run(program, seed, 60))
            open_frames = []
            for depth, spot in machine.arrivals:
                open_frames = open_frames[:depth] + [spot[0]]
                self.assertIn(spot[1], rows[spot[0]][1])
                for name in open_frames:
                    self.assertIn(spot, rows[name][3])
            if machine.end:
                self.assertIn(machine.end, rows[program[0][0]][2])


class RestTest(Checks):

    def test_of_the_document(self):
        self.gives(((('again', 0), ('again', 1)), (BACK,)), rest_of, AGAIN, ('again', 0), cut=(('again', 0),))
        self.gives((('f', 0), ('f', 1), ('g', 0)), inside_of, PROGRAM, ('main', 0))

    def test_by_name(self):
        self.gives(((('g', 0),), (BACK,)), rest_of, program=PROGRAM, spot=('main', 2), cut=())
        self.gives((('g', 0),), inside_of, program=PROGRAM, spot=('main', 2), cut=())

    def test_the_arrival_itself_does_not_count(self):
        self.gives(((), (BACK,)), rest_of, PROGRAM, ('g', 0))
        self.gives((), inside_of, PROGRAM, ('g', 0))
        self.gives(((('f', 1), ('g', 0)), (BACK, ('fail', 'bad'))), rest_of, PROGRAM, ('f', 0))
        # A later arrival at the same spot does: main 1 leads back to main 0, and on to main 1.
        self.same(('main', 1), rest_of(PROGRAM, ('main', 1))[0][-2])

    def test_cut_at_the_spot_itself(self):
        cut = (('main', 0),)
        self.gives(((('f', 0), ('f', 1), ('g', 0), ('main', 0), ('main', 1), ('main', 2)), (BACK,)),
                   rest_of, PROGRAM, ('main', 0), cut=cut)
        self.gives(((('main', 0),), (BACK,)), rest_of, PROGRAM, ('main', 1), cut=(('main', 0), ('main', 1)))
        # inside_of looks into the calls of a line that is cut, too.
        self.gives((('f', 0), ('f', 1), ('g', 0)), inside_of, PROGRAM, ('main', 0), cut=cut)
        self.gives((('f', 0),), inside_of, PROGRAM, ('main', 0), cut=(('f', 0),))
        self.gives(((('f', 0),), ()), rest_of, PROGRAM, ('main', 0), cut=(('f', 0),))

    def test_cut_at_the_spot_and_called_again(self):
        # The call of twice arrives at line 0 again: that arrival is cut, this one is not.
        self.gives((('twice', 0),), inside_of, TWICE, ('twice', 0), cut=(('twice', 0),))
        self.gives((('twice', 0), ('twice', 1)), inside_of, TWICE, ('twice', 0), cut=(('twice', 1),))
        self.gives(((('twice', 0), ('twice', 1)), (BACK,)), rest_of, TWICE, ('twice', 0), cut=(('twice', 0),))

    def test_lines_at_which_no_frame_can_arrive(self):
        program = (('f', ((('',), (BACK,), ()), (('g',), (0, ('fail', 'y')), ()))), G)
        self.gives(((('f', 0), ('g', 0)), (BACK, ('fail', 'y'))), rest_of, program, ('f', 1))
        self.gives((('g', 0),), inside_of, program, ('f', 1))

    def test_frames_that_never_end(self):
        self.gives(((('loops', 0),), ()), rest_of, STUCK, ('waits', 0))
        self.gives(((('loops', 0),), ()), rest_of, STUCK, ('loops', 0))
        self.gives(((), (BACK,)), rest_of, STUCK, ('waits', 1))

    def test_against_the_oracle(self):
        for program in programs()[:40]:
            for cut in cuts_of(program):
                rows = dict([(row[0], row) for row in rows_by_rules(program, cut)])
                for spot in spots_of(program):
                    self.gives(rest_by_rules(program, spot, cut), rest_of, program, spot, cut=cut)
                    called = [call for call in line_at(program, spot)[0] if call != '']
                    inside = {touched for call in called for touched in rows[call][3]}
                    self.gives(tuple(sorted(inside)), inside_of, program, spot, cut=cut)

    def test_wrong_spots(self):
        for thing in anything() + [('g', 1), ('g', False), ('h', 0), ['f', 0], ('main', 3)]:
            if repr(thing) not in [repr(spot) for spot in spots_of(PROGRAM)]:
                for function in (rest_of, inside_of):
                    self.raises(NotUsable, ('spot', thing), function, PROGRAM, thing)
                    self.raises(NotUsable, ('spot', thing), function, program=PROGRAM, spot=thing, cut=(('f', 0),))


class ConsequencesTest(Checks):

    def test_more_cuts_add_no_elements(self):
        for program in programs()[:30]:
            spots = spots_of(program)
            for many in range(len(spots)):
                self.assert_within(least_table(program, cut=spots[:many + 1]), least_table(program, cut=spots[:many]))
                for spot in spots:
                    touched, ends = rest_of(program, spot, cut=spots[:many + 1])
                    more, other = rest_of(program, spot, cut=spots[:many])
                    self.assertTrue(set(touched) <= set(more) and set(ends) <= set(other))
                    inside = inside_of(program, spot, cut=spots[:many + 1])
                    self.assertTrue(set(inside) <= set(inside_of(program, spot, cut=spots[:many])))

    def assert_within(self, table, other):
        for row, more in zip(table, other):
            self.assertEqual(row[0], more[0])
            for part, whole in zip(row[1:], more[1:]):
                self.assertTrue(set(part) <= set(whole))

    def test_further_calls_and_ways_take_none_away(self):
        for program in programs()[:30]:
            for spot in spots_of(program)[:4]:
                calls, ways, handlers = line_at(program, spot)
                name = program[-1][0]
                more = (tuple(sorted({*calls, '', name})), ways + tuple({('fail', 'new'), BACK} - {*ways}), handlers)
                for cut in cuts_of(program)[:6]:
                    self.assert_within(least_table(program, cut=cut),
                                       least_table(with_line(program, spot, more), cut=cut))

    def test_a_further_function_takes_none_away(self):
        for program in SAMPLES:
            more = with_function(program, 'zzz', ((('', 'zzz'), (BACK,), ()),))
            self.assertEqual(least_table(more)[:-1], least_table(program))
            self.same(('zzz', (0,), (BACK,), (('zzz', 0),)), least_table(more)[-1])
            self.same((('zzz', 0),), callers_of(more, 'zzz'))

    def test_renamed(self):
        for program in programs()[:20]:
            names = [name for name, _ in program]
            news = dict(zip(names, names[1:] + ['aaa']))
            found = renamed(program, *news.items())
            rows = []
            for name, lines, ends, touched in least_table(program):
                rows.append((news[name], lines, ends, tuple(sorted([(news[own], k) for own, k in touched]))))
            self.gives(tuple(sorted(rows)), least_table, found)

    def test_the_least_table_is_closed(self):
        for program in programs()[:30]:
            for cut in cuts_of(program):
                rows = dict([(row[0], row[1:]) for row in least_table(program, cut=cut)])
                for name, (lines, ends, touched) in rows.items():
                    for index in lines:
                        self.assertIn((name, index), touched)
                        if (name, index) in cut:
                            continue
                        self.assert_closed(program, (name, index), rows)

    def assert_closed(self, program, spot, rows):
        lines, ends, touched = rows[spot[0]]
        calls, ways, handlers = line_at(program, spot)
        for call in calls:
            self.assertTrue(call == '' or set(rows[call][2]) <= set(touched))
            for end in (BACK,) if call == '' else rows[call][1]:
                for way in ways if end == BACK else (end,):
                    if isinstance(way, tuple) and way != BACK:
                        way = ([index for kind, index in handlers if kind in ('', way[1])] + [way])[0]
                    self.assertIn(way, lines if isinstance(way, int) else ends)


if __name__ == '__main__':
    unittest.main()
