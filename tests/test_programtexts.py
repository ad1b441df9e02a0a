import unittest

from outandover.programreadings import line_read, program_read, spots_read
from outandover.programtexts import line_text, program_text, spots_text
from checks import Checks
from samples import AGAIN, BACK, F, MAIN, PROGRAM, SAMPLES, random_program


class TextsTest(Checks):

    def test_programs(self):
        self.gives('function again\n-,again 1 -\n- back -', program_text, AGAIN)
        self.gives('function main\nf 1 *>2\n- back,0 -\n-,g back -\nfunction f\n- 1,fail:bad -\n-,g back -\n'
                   'function g\n- back -', program_text, program=PROGRAM)

    def test_lines(self):
        self.gives('f 1 *>2', line_text, MAIN[1][0])
        self.gives('- 1,fail:bad -', line_text, line=F[1][0])
        self.gives('-,a,b back,0,fail:x,12 x>0,*>11,y>3', line_text,
                   (('', 'a', 'b'), (BACK, 0, ('fail', 'x'), 12), (('x', 0), ('', 11), ('y', 3))))

    def test_spots(self):
        self.gives('f:1 g:0', spots_text, (('f', 1), ('g', 0)))
        self.gives('-', spots_text, spots=())
        self.gives('f:0', spots_text, (('f', 0),))
        self.gives('f:9 f:10', spots_text, (('f', 9), ('f', 10)))

    def test_what_was_read_by_form_alone(self):
        self.gives('-,-,z,a back,back,0 *>1,*>1', line_text,
                   (('', '', 'z', 'a'), (BACK, BACK, 0), (('', 1), ('', 1))))
        self.gives('g:0 f:1 g:0', spots_text, (('g', 0), ('f', 1), ('g', 0)))
        self.gives('function f\n- 99 -\nfunction f\nzz back -', program_text,
                   (('f', ((('',), (99,), ()),)), ('f', ((('zz',), (BACK,), ()),))))
        self.gives(f'f:{"9" * 60}', spots_text, (('f', int('9' * 60)),))

    def test_words_of_the_form_as_names(self):
        program = (('function', ((('back', 'fail', 'function'), (BACK, ('fail', 'fail')), (('back', 0),)),)),)
        self.gives('function function\nback,fail,function back,fail:fail back>0', program_text, program)

    def test_reading_returns_what_was_written(self):
        for program in SAMPLES + tuple([random_program(seed) for seed in range(60)]):
            self.gives(program, program_read, program_text(program))
            for name, lines in program:
                spots = tuple([(name, k) for k in range(len(lines))])
                self.gives(spots, spots_read, spots_text(spots))
                for line in lines:
                    self.gives(line, line_read, line_text(line))
        self.gives((), spots_read, spots_text(()))


if __name__ == '__main__':
    unittest.main()
