"""The examples of the document, just as they stand there."""

import unittest

from outandover import errors

VALUES = """
    >>> MAIN = ('main', ((('f',), (1,), (('', 2),)), (('',), (('back',), 0), ()), (('', 'g'), (('back',),), ())))
    >>> F = ('f', ((('',), (1, ('fail', 'bad')), ()), (('', 'g'), (('back',),), ())))
    >>> G = ('g', ((('',), (('back',),), ()),))
    >>> PROGRAM = (MAIN, F, G)
    >>> RUN = (0, 0, 0, 1, 0, 0, 0, 0, 0, 0)
    >>> AGAIN = (('again', ((('', 'again'), (1,), ()), (('',), (('back',),), ()))),)
"""

KINDS = """
    >>> from outandover.kinds import is_line, is_spot, is_way
    >>> [is_spot(('f', 0)), is_spot(('f', True)), is_way(('fail', 'bad')), is_way('back'), is_line(((), (), ()))]
    [True, False, True, False, True]
"""

CHECKER = """
    >>> from outandover.programchecker import lets_program
    >>> lets_program(PROGRAM)
    6
    >>> lets_program((MAIN, F))
    raises InvalidPaper(word='calls', at=('main', 2))
"""

PARTS = """
    >>> from outandover.programparts import callers_of, can_call, line_at
    >>> [callers_of(PROGRAM, 'g'), can_call(PROGRAM, 'main'), can_call(AGAIN, 'again')]
    [(('f', 1), ('main', 2)), ('f', 'g'), ('again',)]
    >>> line_at(PROGRAM, ('g', 1))
    raises NotUsable(word='spot', at=('g', 1))
"""

CHANGES = """
    >>> from outandover.programchanges import renamed, with_line, without_function
    >>> [without_function(PROGRAM, 'g')[1], renamed(AGAIN, ('again', 'b'))[0][1][0]]
    [('f', ((('',), (1, ('fail', 'bad')), ()), (('',), (('back',),), ()))), (('', 'b'), (1,), ())]
    >>> renamed(PROGRAM, ('f', 'g'))
    raises NotUsable(word='name', at='g')
    >>> with_line(AGAIN, ('again', 1), (('',), (2,), ()))
    raises InvalidPaper(word='ways', at=('again', 1))
"""

TEXTS = r"""
    >>> from outandover.programreadings import line_read, program_read, spots_read
    >>> from outandover.programtexts import line_text, program_text, spots_text
    >>> [program_text(AGAIN), line_text(MAIN[1][0]), spots_text((('f', 1), ('g', 0)))]
    ['function again\n-,again 1 -\n- back -', 'f 1 *>2', 'f:1 g:0']
    >>> [line_read('g,- 3,fail:bad bad>0,*>1'), program_read('function f\nfunction back -')]
    [(('g', ''), (3, ('fail', 'bad')), (('bad', 0), ('', 1))), (('f', ((('function',), (('back',),), ()),)),)]
    >>> program_read('function f\nf 0 -\nfunction')
    raises InvalidText(line=2, field=1)
"""

BLOCKS = (KINDS, CHECKER, PARTS, CHANGES, TEXTS)


def rows_of(block):
    """The pairs of a row of code and of what it shows, "" if nothing."""
    rows = [row.strip() for row in block.strip().split('\n')]
    pairs = []
    for row in rows:
        if row.startswith('>>> '):
            pairs.append([row[4:], ''])
        else:
            pairs[-1][1] = row
    return pairs


def shown(code, names):
    """What Python shows for a row of code, errors with their fields by name."""
    try:
        found = eval(compile(code, 'example', 'eval'), names)
    except SyntaxError:
        exec(code, names)
        return ''
    except errors.StepError as error:
        fields = ', '.join([f'{name}={value!r}' for name, value in vars(error).items()])
        return f'raises {error.__class__.__name__}({fields})'
    return repr(found)


class ExamplesTest(unittest.TestCase):

    def test_examples(self):
        names = {}
        for block in (VALUES,) + BLOCKS:
            for code, result in rows_of(block):
                with self.subTest(code=code):
                    self.assertEqual(shown(code, names), result)


if __name__ == '__main__':
    unittest.main()
