import unittest
from random import Random

from outandover.errors import InvalidText
from outandover.eventkinds import is_event, is_log
from outandover.eventreadings import read_event, read_log
from outandover.eventtexts import event_line, log_lines
from outandover.programreadings import program_read
from outandover.programtexts import program_text
from checks import Checks
from samples import AGAIN, F, G, PROGRAM, RUN, guided_programs
from test_eventkinds import EVENTS

W = (('g', 0),)
LINES = ('feed -', f'feed 0,1,2,{10 ** 59}', 'tell step', 'tell next', 'tell out', 'tell go', 'break f:0 on',
         f'break zz:{10 ** 59} off', 'clear f:9', 'wish -', 'wish g:0', 'wish f:2 f:10 g:0')
ROWS = ['function again', '-,again 1 -', '- back -']


class EventTest(Checks):

    def test_each_event(self):
        for event, line in zip(EVENTS, LINES):
            self.gives(line, event_line, event)
            self.gives(line, event_line, event=event)
            self.gives(event, read_event, line)
            self.gives(event, read_event, text=line)

    def test_sets_need_not_be_ascending(self):
        for event, line in ((('wish', (('g', 0), ('f', 0))), 'wish g:0 f:0'), (('wish', (('f', 0),) * 3), 'wish f:0 f:0 f:0'),
                            (('feed', (3, 3, 1)), 'feed 3,3,1')):
            self.gives(event, read_event, line)
            self.gives(line, event_line, event)

    def test_each_word_spoilt(self):
        spoilt = {
            'word': ('', 'Feed', 'feeds', '-', 'session', 'undo', 'tell,', 'try', 'f:0', '\nfeed', 'feed\n', 'function'),
            'choices': ('', '0,', ',0', '0,,1', '-1', '01', '-,0', '0,-', 'a', '1' * 61, '0\n', '0;1', '--', '+1'),
            'command': ('', 'Step', 'back', '-', 'step\n', 'steps', 'step,next'),
            'spot': ('', '-', 'f', 'f:', ':0', 'f:01', 'F:0', 'f:0\n', 'f:-1', 'f:0,g:0', 'ninechars:0', 'f:' + '9' * 61),
            'on': ('', 'On', 'true', '1', '-', 'on\n', 'onoff', 'no'),
        }
        forms = (('feed', 'choices'), ('tell', 'command'), ('break', 'spot', 'on'), ('clear', 'spot'))
        right = {'choices': '0,1', 'command': 'go', 'spot': 'f:3', 'on': 'off'}
        for form in forms:
            words = [form[0]] + [right[kind] for kind in form[1:]]
            for field, kind in enumerate(('word',) + form[1:]):
                for word in spoilt[kind]:
                    text = ' '.join(words[:field] + [word] + words[field + 1:])
                    self.raises(InvalidText, (0, field), read_event, text)
                    for later in range(field + 1, len(words)):
                        twice = words[:field] + [word] + words[field + 1:later] + ['?'] + words[later + 1:]
                        self.raises(InvalidText, (0, field), read_event, ' '.join(twice))
                doubled = words[:field] + [words[field]] + words[field:]
                self.raises(InvalidText, (0, len(form) if field == len(form) - 1 else field + 1), read_event, ' '.join(doubled))
                self.raises(InvalidText, (0, 0 if field == 0 else field), read_event, ' '.join(words[:field] + words[field + 1:]))
            for more in ('', '-', words[-1], '0', '\n'):
                self.raises(InvalidText, (0, len(words)), read_event, ' '.join(words + [more]))
                self.raises(InvalidText, (0, len(words)), read_event, ' '.join(words + [more, '?']))
            for count in range(1, len(words)):
                self.raises(InvalidText, (0, count), read_event, ' '.join(words[:count]))

    def test_wish(self):
        for text, field in (('wish', 1), ('wish ', 1), ('wish - ', 2), ('wish - -', 2), ('wish - f:0', 2), ('wish f:0 -', 2),
                            ('wish f:0 ', 2), ('wish f:0 g:0 h', 3), ('wish f:0  g:0', 2), ('wish f:0,g:0', 1),
                            ('wish f:0\n', 1), ('wish f:0 g:0\n', 2), ('wish\n', 0), ('wishes -', 0), (' wish -', 0)):
            self.raises(InvalidText, (0, field), read_event, text)

    def test_other_strings(self):
        for text in ('', ' ', '\n', '-', 'function f', 'state', 'log', 'undo', 'session 2 -', 'try feed -', 'feed -\nfeed -'):
            field = 1 if text == 'feed -\nfeed -' else 0
            self.raises(InvalidText, (0, field), read_event, text)

    def test_written_and_read(self):
        chance = Random(4)
        words = ['feed', 'tell', 'break', 'clear', 'wish', '-', '0', '0,1', 'go', 'f:0', 'g:10', 'on', 'off', '']
        met = 0
        for _ in range(6000):
            text = ' '.join([chance.choice(words) for _ in range(chance.randint(1, 4))])
            try:
                event = read_event(text)
            except InvalidText as error:
                self.assertEqual(error.line, 0)
                self.assertLessEqual(error.field, len(text.split(' ')))
                continue
            met += 1
            self.same(text, event_line(event))
            if event[0] != 'wish':
                self.assertTrue(is_event(event))
        self.assertGreater(met, 50)


class LogTest(Checks):

    def test_written(self):
        self.gives(['session 3 -'] + ROWS, log_lines, (('session', AGAIN, ()),))
        log = (('session', PROGRAM, W),) + EVENTS
        rows = program_text(PROGRAM).split('\n')
        self.gives([f'session {len(rows)} g:0'] + rows + list(LINES), log_lines, log=log)
        self.gives(['session 2 f:1 f:10', 'function g', '- back -', 'feed 0,0'], log_lines,
                   (('session', (G,), (('f', 1), ('f', 10))), ('feed', (0, 0))))

    def test_read(self):
        self.gives((('session', AGAIN, ()),), read_log, ['session 3 -'] + ROWS)
        self.gives((('session', AGAIN, W),) + EVENTS, read_log, lines=['session 3 g:0'] + ROWS + list(LINES))

    def test_written_and_read(self):
        for k, program in enumerate(guided_programs()):
            log = (('session', program, W * (k % 2)),) + EVENTS[:k % 13]
            self.assertTrue(is_log(log))
            lines = log_lines(log)
            self.assertIs(lines.__class__, list)
            self.gives(log, read_log, lines)
            self.gives(lines, log_lines, read_log(lines))

    def test_programs_and_events_need_not_be_possible(self):
        lines = ['session 4 g:0 f:0 f:0', 'function f', 'zz,- 7,7 -', 'function f', '- back x>9,x>9', 'feed 99', 'tell go',
                 'tell go', 'wish g:0 f:0']
        lines[0] = 'session 4 g:0 f:0 f:0'
        program = program_read('\n'.join(lines[1:5]))
        log = (('session', program, (('g', 0), ('f', 0), ('f', 0))), ('feed', (99,)), ('tell', 'go'), ('tell', 'go'),
               ('wish', (('g', 0), ('f', 0))))
        self.gives(log, read_log, lines)
        self.gives(lines, log_lines, log)
        self.assertFalse(is_log(log))

    def test_the_first_line(self):
        self.raises(InvalidText, (0, 0), read_log, [])
        for line, field in (('', 0), ('Session 3 -', 0), ('session', 1), ('session ', 1), ('session 1 -', 1), ('session 0 -', 1),
                            ('session -3 -', 1), ('session 03 -', 1), ('session - -', 1), ('session three -', 1),
                            ('session 3', 2), ('session 3 ', 2), ('session 3 - -', 3), ('session 3 - g:0', 3),
                            ('session 3 g:0 -', 3), ('session 3 g:0 ', 3), ('session 3  -', 2), ('session 3 g', 2),
                            ('session 3 g:0,f:0', 2), (' session 3 -', 0), ('session 1 x', 1), ('sessions 1 x', 0),
                            ('session ' + '3' * 61 + ' -', 1), ('session 3 g:0 f:00 h', 3), ('feed -', 0)):
            for more in ([], ROWS, ['?']):
                self.raises(InvalidText, (0, field), read_log, [line] + more)

    def test_too_few_rows(self):
        self.raises(InvalidText, (1, 0), read_log, ['session 3 -'])
        self.raises(InvalidText, (2, 0), read_log, ['session 3 -'] + ROWS[:1])
        self.raises(InvalidText, (3, 0), read_log, ['session 3 -'] + ROWS[:2])
        for number in (4, 100, 10 ** 59):
            self.raises(InvalidText, (4, 0), read_log, [f'session {number} -'] + ROWS)
        # What is wrong in fewer rows comes first.
        self.raises(InvalidText, (2, 1), read_log, ['session 9 -', 'function f', '- x -', 'function g'])
        self.raises(InvalidText, (1, 0), read_log, ['session 9 -', '- back -'])
        self.raises(InvalidText, (4, 0), read_log, ['session 9 -', 'function f', '- back -', 'function g'])
        self.raises(InvalidText, (3, 2), read_log, ['session 4 -'] + ROWS[:2] + ['- back', 'feed -'])

    def test_rows_that_are_too_many_for_the_program(self):
        # N is too small: what is left of the rows is no event.
        self.raises(InvalidText, (3, 0), read_log, ['session 2 -'] + ROWS)
        self.raises(InvalidText, (4, 0), read_log, ['session 3 -'] + ROWS + ROWS)
        # N is too great: an event is no line of a program.
        self.raises(InvalidText, (4, 0), read_log, ['session 4 -'] + ROWS + ['feed! -'])
        self.raises(InvalidText, (4, 1), read_log, ['session 4 -'] + ROWS + ['feed -'])
        self.raises(InvalidText, (4, 1), read_log, ['session 4 -'] + ROWS + ['feed - -'])

    def test_the_rows_of_the_program(self):
        for k in range(3):
            for row in ('', 'function', 'function ', 'function F', '- back', '- back - -', '- -', 'f', ' '):
                rows = ROWS[:k] + [row] + ROWS[k + 1:]
                try:
                    program_read('\n'.join(rows))
                except InvalidText as error:
                    for events in ([], ['feed -'], ['?']):
                        self.raises(InvalidText, (error.line + 1, error.field), read_log, ['session 3 -'] + rows + events)
                else:
                    self.fail(rows)
        self.raises(InvalidText, (5, 0), read_log, ['session 4 -'] + ROWS + ['function f'])
        self.raises(InvalidText, (5, 0), read_log, ['session 4 -'] + ROWS + ['function f', 'feed -', '?'])
        self.raises(InvalidText, (2, 0), read_log, ['session 2 -', 'function f', 'function g', '- back -'])

    def test_the_lines_of_the_events(self):
        begins = ['session 3 -'] + ROWS
        for line in ('', ' ', 'feed', 'tell x', 'break f:0', 'wish', 'session 3 -', 'function f', 'undo', 'wish - -', 'clear f:0 '):
            try:
                read_event(line)
            except InvalidText as error:
                for before in ([], ['feed -'], ['tell go', 'tell go']):
                    for behind in ([], ['?'], ['feed -']):
                        self.raises(InvalidText, (4 + len(before), error.field), read_log, begins + before + [line] + behind)
            else:
                self.fail(line)

    def test_shortest(self):
        self.gives((('session', (G,), ()),), read_log, ['session 2 -', 'function g', '- back -'])
        self.gives((('session', (F,), ()), ('feed', RUN)), read_log, log_lines((('session', (F,), ()), ('feed', RUN))))


if __name__ == '__main__':
    unittest.main()
