import unittest
from random import Random

from outandover.desk import Desk
from outandover.errors import InvalidEvent, InvalidPaper, InvalidRow, NothingToUndo, NotUsable
from outandover.eventtexts import event_line, log_lines
from outandover.plans import least_plan
from outandover.replaying import replayed
from outandover.sessions import Session
from checks import Checks
from oracle import Told
from samples import AGAIN, F, G, MAIN, PROGRAM, RUN, TWICE
from test_sessions import PROGRAMS, event_by_chance

W = (('g', 0),)
ASKED = ('state', 'here', 'frames', 'wished', 'passed', 'advice', 'counts', 'planted', 'log')


def beginning(program, wished=()):
    """The row that gives a desk a session."""
    return '\n'.join(log_lines((('session', program, wished),)))


def desk_of(program, wished=(), *rows):
    desk = Desk()
    desk.say(beginning(program, wished))
    for row in rows:
        desk.say(row)
    return desk


def asked(desk):
    return [desk.say(row) for row in ASKED]


def words(things):
    return ' '.join([str(thing) for thing in things]) or '-'


def spots(things):
    return words([f'{name}:{index}' for name, index in things])


def answers(program, wished, events):
    """What a desk answers to the rows of ASKED, from a plain reading of the events."""
    told = Told(program, wished, events)
    session = replayed((('session', program, wished),) + tuple(events))
    planted = words([f'{name}:{index}@{look}' for (name, index), look in session.planted()])
    return [told.state(), spots([told.here()] if told.here() else []), spots(told.frames()), spots(told.wished),
            words(told.passed), session.advice() or '-', f'{told.arrived} {told.halted}', planted,
            ' / '.join([event_line(event) for event in events]) or '-']


class OrdinaryTest(Checks):

    def test_a_session(self):
        desk = Desk()
        self.same('ok', desk.say(beginning(PROGRAM, W)))
        self.same(['stopped', 'main:0', 'main:0', 'g:0', '-', 'step', '0 0', '-', '-'], asked(desk))
        self.same('stopped', desk.say('feed 0,0,0,1'))
        self.same('running -', desk.say('try tell next'))
        self.same('stopped f:0', desk.say('try tell step'))
        self.same('running', desk.say(row='tell next'))
        self.same(['running', '-', '-', 'g:0', '3', '-', '3 0', 'main:1@-1 main:2@-1', 'feed 0,0,0,1 / tell next'],
                  asked(desk))
        self.same('stopped main:1', desk.say('try feed 0,0,0,0'))
        self.same('stopped', desk.say('feed 0,0,0,0,0,0'))
        self.same(['stopped', 'main:1', 'main:1', 'g:0', '3', 'next', '4 1', '-',
                   'feed 0,0,0,1 / tell next / feed 0,0,0,0,0,0'], asked(desk))
        self.same('over -', desk.say('try tell next'))
        self.same('over', desk.say('tell next'))
        self.same(['over', '-', '-', 'g:0', '3', '-', '4 1', '-'], asked(desk)[:-1])
        self.same('tell next', desk.say('undo'))
        self.same('feed 0,0,0,0,0,0', desk.say('undo'))
        self.same('tell next', desk.say('undo'))
        self.same('feed 0,0,0,1', desk.say('undo'))
        self.same(['stopped', 'main:0', 'main:0', 'g:0', '-', 'step', '0 0', '-', '-'], asked(desk))

    def test_frames_and_several(self):
        desk = desk_of(PROGRAM, (('f', 0), ('main', 2)), 'feed 0,0,0,1,0,0,0', 'tell step', 'tell step', 'tell step')
        self.same('main:0 f:1 g:0', desk.say('frames'))
        self.same('f:0 main:2', desk.say('wished'))
        desk = desk_of(AGAIN, (('again', 0), ('again', 1)), 'feed 1,1,0,0,0', 'break again:1 on', 'tell go')
        self.same('1 2', desk.say('passed'))
        self.same('break again:1 on', desk.say('log').split(' / ')[1])

    def test_planted(self):
        desk = desk_of(TWICE, (), 'feed 1,1', 'tell step', 'tell step', 'tell next')
        plan = least_plan(TWICE, (('twice', 0),) * 3, 'next')
        self.same(words([f'{name}:{index}@{look}' for (name, index), look in plan]), desk.say('planted'))
        self.same('twice:1@2', desk.say('planted'))
        desk = desk_of(PROGRAM, (), 'break g:0 on', 'break zz:1 on', 'break f:1 off', 'tell go')
        self.same('g:0@-1 zz:1@-1', desk.say('planted'))
        desk.say('undo')
        desk.say('undo')
        self.same('running', desk.say('tell go'))
        self.same('g:0@-1 zz:1@-1', desk.say('planted'))

    def test_each_event(self):
        for event, line in ((('feed', ()), 'feed -'), (('tell', 'out'), 'tell out'), (('break', ('f', 0), True), 'break f:0 on'),
                            (('break', ('f', 0), False), 'break f:0 off'), (('clear', ('f', 0)), 'clear f:0'),
                            (('wish', ()), 'wish -'), (('wish', W), 'wish g:0')):
            desk = desk_of(PROGRAM)
            state = Session(PROGRAM).go(event)
            here = 'main:0' if state == 'stopped' else '-'
            self.same(f'{state} {here}', desk.say('try ' + line))
            self.same('-', desk.say('log'))
            self.same(state, desk.say(line))
            self.same(line, desk.say('log'))
            self.same(line, desk.say('undo'))

    def test_by_chance(self):
        for seed in range(150):
            chance = Random(seed)
            program = PROGRAMS[seed % len(PROGRAMS)]
            desk, events = desk_of(program, W), []
            for _ in range(12):
                told = Told(program, W, events)
                event = event_by_chance(chance, program, told)
                reason = told.reason(event)
                for row in (event_line(event), 'try ' + event_line(event)):
                    if reason:
                        self.raises(InvalidEvent, (event, reason), RowOf(desk), row)
                if reason:
                    continue
                behind = Told(program, W, events + [event])
                here = spots([behind.here()] if behind.here() else [])
                self.same(f'{behind.state()} {here}', desk.say('try ' + event_line(event)))
                self.same(behind.state(), desk.say(event_line(event)))
                events.append(event)
                if chance.random() < 0.2:
                    self.same(event_line(events.pop()), desk.say('undo'))
                self.same(answers(program, W, events), asked(desk))


class RowOf:
    """Says rows at a desk; two of them are told apart by nothing, so that tests see only arguments."""

    def __init__(self, desk):
        self.desk = desk

    def __call__(self, row):
        return self.desk.say(row)

    def __repr__(self):
        return 'desk'


class RowTest(Checks):

    def wrong(self, desk, row):
        self.raises(InvalidRow, (row,), RowOf(desk), row)

    def test_before_the_first_session(self):
        for row in ASKED + ('undo', 'feed -', 'tell step', 'try tell step', 'wish -', '', 'session', 'session 2 -', 'counts ',
                            'session 3 -\nfunction f\n- back -', beginning(PROGRAM) + '\nfeed -', '\n'):
            desk = Desk()
            self.wrong(desk, row)
            self.same((1, 0), desk.counts())

    def test_other_strings(self):
        desk = desk_of(PROGRAM, W)
        before = asked(desk)
        for row in ('', ' ', '\n', 'State', 'state ', ' state', 'state\n', 'states', 'here here', 'undo ', 'undo undo', 'try',
                    'try ', 'try undo', 'try state', 'try try tell step', 'try  tell step', 'try tell', 'try feed -\n', 'Try feed -',
                    'feed', 'feed 0 0', 'tell', 'tell Step', 'tell step ', 'break f:0', 'break f:0 yes', 'clear', 'clear f:0 f:1',
                    'wish', 'wish - -', 'wish g:0\n', 'feed -\nfeed -', 'session', 'session 3 -', 'log\n', 'planted counts', 'ok',
                    'session 7 g:0', 'try session 2 -', 'try ' + beginning((G,)), 'close', '-', 'begin', 'f:0', 'function f'):
            self.wrong(desk, row)
        self.same(before, asked(desk))

    def test_logs_with_events(self):
        desk = desk_of(PROGRAM, W, 'tell step')
        for events in ((('feed', ()),), (('tell', 'step'), ('tell', 'step')), (('feed', (99,)),)):
            self.wrong(desk, '\n'.join(log_lines((('session', PROGRAM, ()),) + events)))
        self.same('tell step', desk.say('log'))

    def test_first_lines_that_are_none(self):
        desk = desk_of(PROGRAM, W)
        right = beginning(AGAIN)
        for row in (right + '\n', '\n' + right, right.replace('session 3', 'session 2'), right.replace('session 3', 'session 4'),
                    right.replace('session 3 -', 'session 3'), right.replace('back', 'bac'), right.replace('\n', ' '),
                    right.replace('session', 'Session'), right.replace('-,again', '-, again'), right + '\n?'):
            self.wrong(desk, row)
        self.same('g:0', desk.say('wished'))


class SessionTest(Checks):

    def test_a_new_session(self):
        desk = desk_of(PROGRAM, W, 'feed 0', 'tell go')
        self.same('ok', desk.say(beginning((G,), (('zz', 0),))))
        self.same(['stopped', 'g:0', 'g:0', 'zz:0', '-', 'out', '0 0', '-', '-'], asked(desk))

    def test_errors_of_session(self):
        for desk in (Desk(), desk_of(PROGRAM, W, 'feed 0,0', 'tell step')):
            before = desk.counts()
            self.raises(InvalidPaper, ('calls', ('main', 2)), RowOf(desk), beginning((MAIN, F)))
            self.raises(InvalidPaper, ('name', 1), RowOf(desk), beginning((F, F), (('g', 0), ('f', 0))))
            self.raises(NotUsable, ('wished', -1), RowOf(desk), beginning(PROGRAM, (('g', 0), ('f', 0))))
            self.raises(NotUsable, ('wished', -1), RowOf(desk), beginning(PROGRAM, W * 2))
            self.same((before[0] + 4, before[1]), desk.counts())
            if before == (0, 0):
                self.raises(InvalidRow, ('state',), RowOf(desk), 'state')
            else:
                self.same('f:0', desk.say('here'))
                self.same('feed 0,0 / tell step', desk.say('log'))
                self.same('ok', desk.say(beginning(AGAIN)))
                self.same('again:0', desk.say('here'))

    def test_errors_of_events(self):
        desk = desk_of(PROGRAM, W)
        for row, event, reason in (
            ('feed 7', ('feed', (7,)), 'choice'), ('wish g:0 f:0', ('wish', (('g', 0), ('f', 0))), 'shape'),
            ('wish g:0 g:0', ('wish', W * 2), 'shape'),
        ):
            self.raises(InvalidEvent, (event, reason), RowOf(desk), row)
            self.raises(InvalidEvent, (event, reason), RowOf(desk), 'try ' + row)
        self.raises(NothingToUndo, (0,), RowOf(desk), 'undo')
        desk.say('tell next')
        self.raises(InvalidEvent, (('tell', 'step'), 'running'), RowOf(desk), 'tell step')
        self.raises(InvalidEvent, (('break', ('f', 0), True), 'running'), RowOf(desk), 'try break f:0 on')
        desk.say('feed ' + ','.join([str(choice) for choice in RUN]))
        desk.say('tell out')
        self.raises(InvalidEvent, (('feed', ()), 'over'), RowOf(desk), 'feed -')
        for _ in range(37):
            desk.say('clear f:0')
        self.raises(InvalidEvent, (('clear', ('f', 0)), 'full'), RowOf(desk), 'clear f:0')
        self.raises(InvalidEvent, (('clear', ('f', 0)), 'full'), RowOf(desk), 'try clear f:0')

    def test_what_a_refused_row_leaves(self):
        desk = desk_of(PROGRAM, W, 'feed 0,0,0,1', 'tell next')
        before = asked(desk)
        for row in ('tell step', 'try tell step', '?', 'feed 9', 'wish g:0 f:0', beginning((F,), W * 2), beginning((MAIN,))):
            with self.assertRaises((InvalidEvent, InvalidRow, InvalidPaper, NotUsable)):
                desk.say(row)
            self.same(before, asked(desk))

    def test_side_by_side(self):
        one, two = desk_of(PROGRAM, W), desk_of(PROGRAM, W)
        one.say('feed 0')
        one.say('tell step')
        self.same(('f:0', 'main:0', '-'), (one.say('here'), two.say('here'), two.say('log')))
        self.same(((4, 4), (3, 3)), (one.counts(), two.counts()))


class CountsTest(Checks):

    def test_counts(self):
        desk = Desk()
        self.same((0, 0), desk.counts())
        for row, expected in (('state', (1, 0)), (beginning(PROGRAM), (2, 1)), ('state', (3, 2)), ('tell go', (4, 3)),
                              ('tell go', (5, 3)), ('undo', (6, 4)), ('undo', (7, 4)), ('?', (8, 4)), ('counts', (9, 5)),
                              (beginning((MAIN,)), (10, 5)), ('try tell go', (11, 6)), ('try', (12, 6))):
            try:
                desk.say(row)
            except (InvalidRow, InvalidEvent, NothingToUndo, InvalidPaper):
                pass
            self.same(expected, desk.counts())
            self.same(expected, desk.counts())
        # Those of the session are something else.
        self.same('0 0', desk.say('counts'))


if __name__ == '__main__':
    unittest.main()
