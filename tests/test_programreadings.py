import unittest

from outandover.errors import InvalidText
from outandover.programreadings import line_read, program_read, spots_read
from outandover.programtexts import line_text, program_text, spots_text
from checks import Checks
from samples import BACK

SIXTY = '9' * 60


class LineReadTest(Checks):

    def wrong(self, field, text):
        self.raises(InvalidText, (0, field), line_read, text)
        self.raises(InvalidText, (0, field), line_read, text=text)

    def test_lines(self):
        self.gives((('g', ''), (3, ('fail', 'bad')), (('bad', 0), ('', 1))), line_read, 'g,- 3,fail:bad bad>0,*>1')
        self.gives((('',), (BACK,), ()), line_read, text='- back -')
        self.gives((('', ''), (0, 0), (('', 0), ('', 0))), line_read, '-,- 0,0 *>0,*>0')
        self.gives((('function',), (BACK,), ()), line_read, 'function back -')
        self.gives((('back', 'fail'), (BACK, ('fail', 'fail')), (('back', 1),)), line_read,
                   'back,fail back,fail:fail back>1')
        self.gives((('function',), (('fail', 'back'),), (('function', 0),)), line_read, 'function fail:back function>0')

    def test_numbers(self):
        self.gives((('',), (int(SIXTY), 0, 10), (('', int(SIXTY)),)), line_read, f'- {SIXTY},0,10 *>{SIXTY}')
        self.gives((('',), (10 ** 59,), ()), line_read, f'- {10 ** 59} -')
        for word in (f'{SIXTY}9', '00', '01', '-1', '+1', '1.0', '1_0', '', ' ', '0x1', 'a', f'0{SIXTY}', '1\n'):
            if ' ' not in word:
                self.wrong(1, f'- {word} -')
                self.wrong(1, f'- 0,{word},back -')
                self.wrong(2, f'- 0 x>{word}')

    def test_names(self):
        self.gives((('abcdefgh', 'a'), (('fail', 'abcdefgh'),), (('abcdefgh', 0),)), line_read,
                   'abcdefgh,a fail:abcdefgh abcdefgh>0')
        for word in ('abcdefghi', 'A', 'a1', 'a-', '--', '*', '1', 'a:b', 'a>0', 'a\n', '\na', '\n'):
            self.wrong(0, f'{word} back -')
            self.wrong(0, f'a,{word} back -')
            self.wrong(1, f'- fail:{word} -')
        for word in ('abcdefghi', 'A', 'a1', '-', '**', '1', 'a:b', 'a>0', 'a\n', ''):
            self.wrong(2, f'- back {word}>0')

    def test_ways(self):
        for word in ('', ',', 'back,', ',back', '0,,1', '-', 'fail', 'fail:', 'fail:-', 'fail:*', 'Back', 'backs',
                     'back:bad', 'fail:a:b', 'fail>bad', '0,-', ':bad', 'main', '*'):
            self.wrong(1, f'- {word} -')

    def test_handlers(self):
        for word in ('', ',', '*', '*>', '>0', '->0', 'x', 'x>', 'x>a', 'x>0,', ',x>0', 'x>0,-', '-,x>0', '--', '-,-',
                     'x>0>1', 'x:0', '**>0', 'x>0,,y>0', 'x>00'):
            self.wrong(2, f'- back {word}')

    def test_calls(self):
        for word in ('', ',', '-,', ',-', 'a,', ',a', 'a,,b', '*', '--', 'a-'):
            self.wrong(0, f'{word} back -')

    def test_missing_and_more_words(self):
        self.wrong(0, '')
        self.wrong(1, '-')
        self.wrong(2, '- back')
        self.wrong(2, '- back ')
        self.wrong(1, '- ')
        self.wrong(1, '-  back -')
        self.wrong(0, ' - back -')
        self.wrong(0, ' ')
        self.wrong(3, '- back - ')
        self.wrong(3, '- back - x')
        self.wrong(3, '- back - x y')
        self.wrong(1, 'function f')
        self.wrong(1, 'function')

    def test_the_first_word_that_is_not_possible(self):
        self.wrong(0, 'A 00 y z')
        self.wrong(1, 'a 00 y z')
        self.wrong(2, 'a 0 y z')
        self.wrong(0, 'A')
        self.wrong(1, 'a B')

    def test_a_newline_belongs_to_its_word(self):
        self.wrong(0, '\n')
        self.wrong(0, '\n- back -')
        self.wrong(0, '-\n back -')
        self.wrong(0, '-\nback -')
        self.wrong(1, '- back\n -')
        self.wrong(1, '- \nback -')
        self.wrong(2, '- back -\n')
        self.wrong(2, '- back x>0\n')
        self.wrong(2, '- back -\n- back -')
        self.wrong(3, '- back - \n')


class SpotsReadTest(Checks):

    def wrong(self, field, text):
        self.raises(InvalidText, (0, field), spots_read, text)
        self.raises(InvalidText, (0, field), spots_read, text=text)

    def test_spots(self):
        self.gives((('f', 1), ('g', 0)), spots_read, 'f:1 g:0')
        self.gives((), spots_read, text='-')
        self.gives((('g', 0), ('f', 1), ('g', 0), ('g', 0)), spots_read, 'g:0 f:1 g:0 g:0')
        self.gives((('back', 0), ('fail', 1), ('function', 2)), spots_read, 'back:0 fail:1 function:2')
        self.gives((('f', int(SIXTY)),), spots_read, f'f:{SIXTY}')

    def test_the_word_for_none(self):
        self.wrong(1, '- -')
        self.wrong(1, '- f:0')
        self.wrong(1, '- f:0 -')
        self.wrong(1, '- ')
        self.wrong(1, 'f:0 -')
        self.wrong(2, 'f:0 f:0 -')
        self.wrong(1, 'f:0 - f:0')

    def test_words(self):
        for word in ('', 'f', ':', 'f:', ':0', 'f:00', 'f:-1', 'F:0', 'f:0:0', 'f::0', 'f:a', 'f:0\n', '\nf:0', '\n',
                     'abcdefghi:0', f'f:{SIXTY}0', 'f,0', 'f:0,g:0', '*', '*:0', '-:0', '--', '-\n'):
            self.wrong(0, word)
            self.wrong(1, f'f:0 {word}')
            self.wrong(2, f'f:0 f:1 {word} {word}')

    def test_empty_words(self):
        self.wrong(0, '')
        self.wrong(0, ' ')
        self.wrong(0, ' f:0')
        self.wrong(1, 'f:0 ')
        self.wrong(1, 'f:0  g:0')

    def test_long_texts(self):
        spots = tuple([('f', k) for k in range(600)])
        self.gives(spots, spots_read, spots_text(spots))


class ProgramReadTest(Checks):

    def wrong(self, line, field, text):
        self.raises(InvalidText, (line, field), program_read, text)
        self.raises(InvalidText, (line, field), program_read, text=text)

    def test_programs(self):
        self.gives((('f', ((('function',), (BACK,), ()),)),), program_read, 'function f\nfunction back -')
        self.gives((('f', ((('',), (1,), ()), (('f',), (BACK,), (('', 0),)))), ('g', ((('',), (BACK,), ()),))),
                   program_read, text='function f\n- 1 -\nf back *>0\nfunction g\n- back -')
        self.gives((('function', ((('function',), (BACK,), ()),)),), program_read,
                   'function function\nfunction back -')
        self.gives((('back', ((('fail',), (('fail', 'back'),), ()),)), ('fail', ((('',), (BACK,), ()),))), program_read,
                   'function back\nfail fail:back -\nfunction fail\n- back -')

    def test_by_form_alone(self):
        self.gives((('f', ((('z', 'a', 'a'), (9, 9), (('x', 7), ('x', 7))),)), ('f', ((('',), (BACK,), ()),))),
                   program_read, 'function f\nz,a,a 9,9 x>7,x>7\nfunction f\n- back -')

    def test_rows_that_begin_a_function(self):
        self.wrong(0, 1, 'function')
        self.wrong(0, 1, 'function ')
        self.wrong(0, 1, 'function F')
        self.wrong(0, 1, 'function abcdefghi')
        self.wrong(0, 1, 'function\n- back -')
        self.wrong(2, 1, 'function f\n- back -\nfunction')
        self.wrong(2, 1, 'function f\nf 0 -\nfunction')
        self.wrong(2, 1, 'function f\n- back -\nfunction \n- back -')

    def test_lines_are_all_other_rows(self):
        # With three words the row is a line, however it begins.
        self.wrong(0, 0, 'function f -')
        self.wrong(1, 1, 'function f\nfunction g -')
        self.wrong(1, 1, 'function f\nfunction  back')
        self.wrong(1, 2, 'function f\n- back')
        self.wrong(1, 0, 'function f\n function f')
        self.wrong(1, 0, 'function f\nFunction f')

    def test_the_first_row_is_a_line(self):
        self.wrong(0, 0, '- back -')
        self.wrong(0, 0, '')
        self.wrong(0, 0, '\n')
        self.wrong(0, 0, '\nfunction f\n- back -')
        self.wrong(0, 0, ' function f')
        self.wrong(0, 0, 'A 00 -')

    def test_a_function_right_behind_another(self):
        self.wrong(1, 0, 'function f\nfunction g')
        self.wrong(1, 0, 'function f\nfunction')
        self.wrong(1, 0, 'function f\nfunction G\n- back -')
        self.wrong(3, 0, 'function f\n- back -\nfunction g\nfunction h\n- back -')

    def test_a_function_without_lines_at_the_end(self):
        self.wrong(1, 0, 'function f')
        self.wrong(3, 0, 'function f\n- back -\nfunction g')

    def test_newlines_begin_rows(self):
        self.wrong(2, 0, 'function f\n- back -\n')
        self.wrong(1, 0, 'function f\n')
        self.wrong(1, 0, 'function f\n\n- back -')
        self.wrong(2, 0, 'function f\n- back -\n\nfunction g\n- back -')

    def test_faults_in_lines(self):
        self.wrong(2, 1, 'function f\n- back -\n- 00 -\nA')
        self.wrong(1, 0, 'function f\n-- 00 ?')
        self.wrong(1, 3, 'function f\n- back - -\nfunction')
        self.wrong(1, 2, 'function f\n- back *>\nfunction g\nfunction h')
        self.wrong(1, 1, 'function f\n-\n- back -')
        self.wrong(1, 3, 'function f\n- back - ')

    def test_long_programs(self):
        rows = []
        for name in ('f', 'g'):
            rows.append(f'function {name}')
            rows.extend(['-,f,g 0,back,fail:x x>0,*>12'] * 60)
        text = '\n'.join(rows)
        self.gives(text, program_text, program_read(text))
        self.wrong(122, 0, text + '\n')


class WritingWhatWasReadTest(Checks):

    def test_programs(self):
        for text in ('function f\nfunction back -', 'function f\nz,a,a 9,9 x>7,x>7\nfunction f\n-,- back,back -',
                     f'function f\n- {SIXTY} *>{SIXTY}'):
            self.gives(text, program_text, program_read(text))

    def test_lines(self):
        for text in ('g,- 3,fail:bad bad>0,*>1', '-,-,a,a 0,0,back,back *>0,*>0,x>1,x>0', 'back back back>0'):
            self.gives(text, line_text, line_read(text))

    def test_spots(self):
        for text in ('-', 'f:0', 'g:1 f:10 f:9 g:1', f'f:{SIXTY}'):
            self.gives(text, spots_text, spots_read(text))


if __name__ == '__main__':
    unittest.main()
