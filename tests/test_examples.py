"""The examples of the document, just as they stand there."""

import unittest

from outandover import errors

VALUES = """
    >>> MAIN = ('main', ((('f',), (1,), (('', 2),)), (('',), (('back',), 0), ()), (('', 'g'), (('back',),), ())))
    >>> F = ('f', ((('',), (1, ('fail', 'bad')), ()), (('', 'g'), (('back',),), ())))
    >>> G = ('g', ((('',), (('back',),), ()),))
    >>> PROGRAM = (MAIN, F, G)
    >>> RUN = (0, 0, 0, 1, 0, 0, 0, 0, 0, 0)
    >>> AGAIN = (('again', ((('', 'again'), (1,), ()), (('',), (('back',),), ()))),)
"""

KINDS = """
    >>> from outandover.kinds import is_line, is_spot, is_way
    >>> [is_spot(('f', 0)), is_spot(('f', True)), is_way(('fail', 'bad')), is_way('back'), is_line(((), (), ()))]
    [True, False, True, False, True]
"""

CHECKER = """
    >>> from outandover.programchecker import lets_program
    >>> lets_program(PROGRAM)
    6
    >>> lets_program((MAIN, F))
    raises InvalidPaper(word='calls', at=('main', 2))
"""

PARTS = """
    >>> from outandover.programparts import callers_of, can_call, line_at
    >>> [callers_of(PROGRAM, 'g'), can_call(PROGRAM, 'main'), can_call(AGAIN, 'again')]
    [(('f', 1), ('main', 2)), ('f', 'g'), ('again',)]
    >>> line_at(PROGRAM, ('g', 1))
    raises NotUsable(word='spot', at=('g', 1))
"""

CHANGES = """
    >>> from outandover.programchanges import renamed, with_line, without_function
    >>> [without_function(PROGRAM, 'g')[1], renamed(AGAIN, ('again', 'b'))[0][1][0]]
    [('f', ((('',), (1, ('fail', 'bad')), ()), (('',), (('back',),), ()))), (('', 'b'), (1,), ())]
    >>> renamed(PROGRAM, ('f', 'g'))
    raises NotUsable(word='name', at='g')
    >>> with_line(AGAIN, ('again', 1), (('',), (2,), ()))
    raises InvalidPaper(word='ways', at=('again', 1))
"""

TEXTS = r"""
    >>> from outandover.programreadings import line_read, program_read, spots_read
    >>> from outandover.programtexts import line_text, program_text, spots_text
    >>> [program_text(AGAIN), line_text(MAIN[1][0]), spots_text((('f', 1), ('g', 0)))]
    ['function again\n-,again 1 -\n- back -', 'f 1 *>2', 'f:1 g:0']
    >>> [line_read('g,- 3,fail:bad bad>0,*>1'), program_read('function f\nfunction back -')]
    [(('g', ''), (3, ('fail', 'bad')), (('bad', 0), ('', 1))), (('f', ((('function',), (('back',),), ()),)),)]
    >>> program_read('function f\nf 0 -\nfunction')
    raises InvalidText(line=2, field=1)
"""

PROGRAMS = """
    >>> from outandover.programs import Program
    >>> program = Program(AGAIN) + G
    >>> [program.first, len(program), ('g', 0) in program, program['g'] == G[1], program - 'g' == Program(AGAIN), Program().spots]
    ['again', 3, True, True, True, (('main', 0),)]
"""

SPOTS = """
    >>> from outandover.spotsets import Spots
    >>> a, b = Spots(('g', 0), ('f', 1)), Spots.read('g:0 h:10 h:9')
    >>> [str(a | b), str(a ^ b), (a & b).members, a.lies_in(b), len(b), str(a - a)]
    ['f:1 g:0 h:9 h:10', 'f:1 h:9 h:10', (('g', 0),), False, 3, '-']
"""

CHOOSING = """
    >>> from outandover.choosing import is_run, options_after
    >>> [options_after(PROGRAM, ()), options_after(PROGRAM, RUN[:3]), options_after(PROGRAM, RUN), is_run(PROGRAM, RUN + (0,))]
    [1, 2, 0, False]
    >>> from outandover.choosing import arrivals_of
    >>> arrivals_of(PROGRAM, (0, 0, 1))
    ((0, ('main', 0)), (1, ('f', 0)), (0, ('main', 2)))
    >>> arrivals_of(PROGRAM, (0, 0, 2))
    raises NotUsable(word='choice', at=2)
    >>> from outandover.choosing import end_of, frames_after, is_behind
    >>> [frames_after(PROGRAM, RUN[:6]), is_behind(PROGRAM, RUN[:6]), end_of(PROGRAM, RUN[:6]), end_of(PROGRAM, RUN)]
    [(('main', 0), ('f', 1)), True, (), ('back',)]
"""

LISTING = """
    >>> from outandover.listing import how_many_runs, runs_of
    >>> [list(runs_of(PROGRAM, 3)), how_many_runs(PROGRAM, 5), how_many_runs(PROGRAM, 6)]
    [[(0, 0, 0), (0, 0, 1)], 4, 3]
"""

PACKED = """
    >>> from outandover.packedchecker import lets_packed
    >>> LIVES = (('g', (0, 0)), ('f', (0, 0, 1, ('life', 0), 0)))
    >>> PACKED = ((('main', 0),), LIVES, (0, ('life', 1), 0))
    >>> lets_packed(PROGRAM, PACKED)
    4
    >>> lets_packed(PROGRAM, ((('main', 0),), LIVES, (0, ('life', 0), 0)))
    raises InvalidPaper(word='item', at=(-1, 1))
"""

PACKING = """
    >>> from outandover.packing import packed_of, written_out
    >>> [written_out(PROGRAM, PACKED), written_out(PROGRAM, packed_of(PROGRAM, RUN)) == RUN]
    [(0, 0, 0, 1, 0, 0, 0, 0), True]
    >>> from outandover.packing import arrivals_in, end_behind, frames_behind, joined
    >>> TWICE = (('twice', ((('', 'twice'), (1,), ()), (('', 'twice'), (('back',),), ()))),)
    >>> LONG = ((('twice', 0),), (('twice', (0, 0, 0, 0)), ('twice', (1, ('life', 0), 0, 1, ('life', 0), 0))), (1, ('life', 1)))
    >>> [arrivals_in(TWICE, LONG), arrivals_in(TWICE, LONG, at=('twice', 1)), frames_behind(TWICE, LONG), end_behind(PROGRAM, PACKED)]
    [6, 3, (('twice', 0),), ()]
    >>> written_out(PROGRAM, joined(PROGRAM, PACKED, ((('main', 1),), (), (0, 0)))) == RUN
    True
    >>> joined(TWICE, LONG, ((('twice', 0),), (), ()))
    raises NotUsable(word='frames', at=-1)
"""

WALKS = """
    >>> from outandover.walks import Walk
    >>> walk = Walk(PROGRAM)
    >>> [walk.take(0), walk.take_all(0, 0), walk.here, walk[1], len(walk)]
    [1, 2, ('f', 1), (1, ('f', 0)), 3]
    >>> [walk.set_given(1), walk.frames, walk.back(), walk.choices, walk((0, 0)).frames]
    [1, (('main', 0), ('f', 1), ('g', 0)), 1, (0, 0, 0), (('main', 0),)]
    >>> walk.take(2)
    raises NotUsable(word='choice', at=3)
"""

TABLES = """
    >>> from outandover.tables import inside_of, least_table, rest_of
    >>> [least_table(PROGRAM)[0], inside_of(PROGRAM, ('main', 0))]
    [('f', (0, 1), (('back',), ('fail', 'bad')), (('f', 0), ('f', 1), ('g', 0))), (('f', 0), ('f', 1), ('g', 0))]
    >>> rest_of(AGAIN, ('again', 0), cut=(('again', 0),))
    ((('again', 0), ('again', 1)), (('back',),))
"""

REACH = """
    >>> from outandover.reachchecker import lets_reach
    >>> lets_reach(PROGRAM, ('main', 2), ('run', ((('main', 0),), (('f', (0, 1)),), (0, ('life', 0)))))
    True
"""

SAFE = """
    >>> W = (('g', 0),)
    >>> from outandover.safechecker import lets_safe
    >>> lets_safe(PROGRAM, W, ('f', 0), 'out', ('unsafe', ((('f', 0),), (), (0, 0, 1))))
    False
"""

STEPPERS = """
    >>> from outandover.steppers import CountingFurthest, Fixed
    >>> from outandover.stepping import passed_by, stops_of
    >>> counting = CountingFurthest(PROGRAM, W)
    >>> [stops_of(PROGRAM, RUN, counting), counting.asked, stops_of(PROGRAM, RUN, Fixed('step', 'out')), passed_by(PROGRAM, W, RUN, Fixed('next'))]
    [(0, 1, 2, 3, 4), 5, (0, 1, 4), (3,)]
"""

BOUNDS = """
    >>> from outandover.boundchecker import lets_stops
    >>> from outandover.boundpapers import stops_paper
    >>> from outandover.bounds import fewest_stops, most_stops
    >>> [most_stops(PROGRAM, W), fewest_stops(PROGRAM, W), most_stops((F, G), W), stops_paper((F, G), W)[1][2:4]]
    [None, 3, 3, ((('f', 0), ('fail', 'bad'), 1), (('f', 1), (), 2))]
    >>> lets_stops(AGAIN, (), ('ring', ((('again', 0),), (), ()), ((('again', 0),), (), (1,))))
    raises InvalidPaper(word='quiet', at=-1)
"""

LANDING = """
    >>> from outandover.landing import halts_of, may_end, on_the_way
    >>> IN_F = (('main', 0), ('f', 0))
    >>> [halts_of(PROGRAM, IN_F, 'next'), halts_of(PROGRAM, IN_F, 'out', breaks=(('g', 0),))]
    [((('f', 1), 1), (('main', 2), 0)), ((('g', 0), -1), (('main', 1), 0), (('main', 2), 0))]
    >>> [on_the_way(PROGRAM, IN_F, 'out'), may_end(PROGRAM, IN_F, 'out')]
    [((1,), (('g', 0),)), False]
"""

PLANS = """
    >>> from outandover.plans import is_right, least_plan, plan_fault
    >>> HERE = (('again', 0),)
    >>> [least_plan(AGAIN, HERE, 'next'), least_plan(AGAIN, HERE, 'next', breaks=(('again', 1),)), is_right(PROGRAM, IN_F, 'out', ())]
    [((('again', 1), 0),), ((('again', 1), -1),), False]
    >>> [plan_fault(AGAIN, HERE, 'next', ())[0], plan_fault(AGAIN, HERE, 'next', ((('again', 1), -1),))[0]]
    ['misses', 'early']
    >>> from outandover.planchecker import lets_plan
    >>> lets_plan(AGAIN, HERE, 'next', ((('again', 1), -1),), ('early', (HERE, (), (1, 0, 0))))
    False
    >>> lets_plan(AGAIN, HERE, 'next', ((('again', 1), 0),), ('early', (HERE, (), (1, 0, 0))))
    raises InvalidPaper(word='last', at=-1)
"""

GUIDES = r"""
    >>> from outandover.guides import Guide
    >>> WATCH = ((('f', 'step', (), 0), ('', 'next', (('g', 0),), 0)),)
    >>> watch = Guide(WATCH)
    >>> [str(watch), watch(0, ('main', 7)), watch.without(0, 1, ('g', 0)).breaks, Guide.read('state\n* go g:0,h:1 0')[0]]
    ['state\nf step - 0\n* next g:0 0', ('next', (('g', 0),), 0), (), (('', 'go', (('g', 0), ('h', 1)), 0),)]
    >>> Guide.read('state\nf step - 0\nstate')
    raises InvalidText(line=3, field=0)
    >>> from outandover.following import guide_stops, stops_in
    >>> GO = ((('', 'go', (('g', 0),), 0),),)
    >>> [guide_stops(PROGRAM, WATCH, RUN), guide_stops(PROGRAM, GO, RUN), stops_in(PROGRAM, WATCH, PACKED)]
    [(0, 3, 4), (0, 3), 3]
"""

COMPARED = """
    >>> from outandover.comparechecker import lets_within
    >>> from outandover.comparepapers import within_paper
    >>> from outandover.comparing import are_alike, is_within
    >>> [is_within(PROGRAM, GO, WATCH), are_alike(PROGRAM, GO, WATCH)]
    [True, False]
    >>> STEP = ((('', 'step', (), 0),),)
    >>> within_paper((G,), STEP, STEP)[1]
    (('g', (('lands', 0), ('lands', 0)), ((0, (('lands', 0), ('lands', 0))),), ((('back',), (('lands', 0), ('lands', 0))),)),)
    >>> lets_within(PROGRAM, WATCH, GO, ('breach', ((('main', 0),), (), (0, 0, 1))))
    False
    >>> lets_within((G,), STEP, STEP, ('closed', ()))
    raises InvalidPaper(word='first', at=-1)
"""

SESSIONS = """
    >>> from outandover.sessions import Session
    >>> session = Session(PROGRAM, wished=W)
    >>> [session.feed(RUN[:4]), session.advice(), session.tell('next'), session.passed, session.planted()]
    ['stopped', 'step', 'running', (3,), ((('main', 1), -1), (('main', 2), -1))]
    >>> [session.feed(RUN[4:]), session.here, session.counts(), session('out'), session.frames]
    ['stopped', ('main', 1), (4, 1), 'over', ()]
"""

BLOCKS = (
    KINDS, CHECKER, PARTS, CHANGES, TEXTS, PROGRAMS, SPOTS, CHOOSING, LISTING, PACKED, PACKING, WALKS, TABLES, REACH,
    SAFE, STEPPERS, BOUNDS, LANDING, PLANS, GUIDES, COMPARED,
    SESSIONS,
)


def rows_of(block):
    """The pairs of a row of code and of what it shows, "" if nothing."""
    rows = [row.strip() for row in block.strip().split('\n')]
    pairs = []
    for row in rows:
        if row.startswith('>>> '):
            pairs.append([row[4:], ''])
        else:
            pairs[-1][1] = row
    return pairs


def shown(code, names):
    """What Python shows for a row of code, errors with their fields by name."""
    try:
        found = eval(compile(code, 'example', 'eval'), names)
    except SyntaxError:
        exec(code, names)
        return ''
    except errors.StepError as error:
        fields = ', '.join([f'{name}={value!r}' for name, value in vars(error).items()])
        return f'raises {error.__class__.__name__}({fields})'
    return repr(found)


class ExamplesTest(unittest.TestCase):

    def test_examples(self):
        names = {}
        for block in (VALUES,) + BLOCKS:
            for code, result in rows_of(block):
                with self.subTest(code=code):
                    self.assertEqual(shown(code, names), result)


if __name__ == '__main__':
    unittest.main()
