import unittest

from outandover.errors import InvalidPaper
from outandover.programchecker import lets_program
from checks import Checks
from samples import AGAIN, BACK, F, FAULTS, G, MAIN, PROGRAM, RING, SAMPLES, anything, nested, random_program

LAST = (('',), (BACK,), ())


def one(*lines):
    """The program of one function f with these lines."""
    return (('f', lines),)


class CheckerTest(Checks):

    def fault(self, word, at, thing):
        self.raises(InvalidPaper, (word, at), lets_program, thing)
        self.raises(InvalidPaper, (word, at), lets_program, thing=thing)

    def test_the_number_of_lines(self):
        for program, many in ((PROGRAM, 6), (AGAIN, 2), (RING, 6), (FAULTS, 8), ((G,), 1), (one(LAST), 1)):
            self.gives(many, lets_program, program)
            self.gives(many, lets_program, thing=program)

    def test_random_programs_are_programs(self):
        for seed in range(50):
            program = random_program(seed)
            self.gives(sum(len(lines) for _, lines in program), lets_program, program)

    def test_shape_for_any_value(self):
        programs = [repr(program) for program in SAMPLES]
        for thing in anything():
            if repr(thing) not in programs:
                self.fault('shape', -1, thing)
        for depth in range(31):
            self.fault('shape', -1, nested(depth))

    def test_shape_of_almost_programs(self):
        for thing in (list(PROGRAM), (list(MAIN), F, G), (MAIN, F, G, ()), (MAIN, F, G + (0,)), (MAIN, ('f', ()), G),
                      one(LAST + ((),)), one(LAST[:2]), one((('',), (True,), ())), one((('',), (BACK,), (('', True),)))):
            self.fault('shape', -1, thing)

    def test_name(self):
        self.fault('name', 1, (G, G))
        self.fault('name', 3, (MAIN, F, G, F, MAIN))
        self.fault('name', 2, (G, F, G))

    def test_calls(self):
        self.fault('calls', ('main', 2), (MAIN, F))
        self.fault('calls', ('f', 0), one(((), (BACK,), ())))
        self.fault('calls', ('f', 1), one(LAST, (('f', ''), (BACK,), ())))
        self.fault('calls', ('f', 0), one((('', ''), (BACK,), ())))
        self.fault('calls', ('f', 0), one((('f', 'f'), (BACK,), ())))
        self.fault('calls', ('f', 0), one((('', 'g'), (BACK,), ())))
        self.gives(1, lets_program, one((('', 'f'), (BACK,), ())))

    def test_ways(self):
        self.fault('ways', ('f', 0), one((('',), (), ())))
        self.fault('ways', ('f', 0), one((('',), (0, 0), ())))
        self.fault('ways', ('f', 0), one((('',), (BACK, BACK), ())))
        self.fault('ways', ('f', 0), one((('',), (('fail', 'x'), BACK, ('fail', 'x')), ())))
        self.fault('ways', ('f', 0), one((('',), (1,), ())))
        self.fault('ways', ('f', 1), one(LAST, (('',), (0, 2), ())))
        # The index is one of the same function, not of another one.
        self.fault('ways', ('g', 0), (AGAIN[0], ('g', ((('',), (1,), ()),))))
        self.gives(2, lets_program, one(LAST, (('',), (1, 0, BACK, ('fail', 'x'), ('fail', 'y')), ())))

    def test_handlers(self):
        self.fault('handlers', ('f', 0), one((('',), (BACK,), (('x', 0), ('x', 0)))))
        self.fault('handlers', ('f', 0), one((('',), (BACK,), (('', 0), ('x', 0), ('', 0)))))
        self.fault('handlers', ('f', 0), one((('',), (BACK,), (('x', 1),))))
        self.fault('handlers', ('f', 1), one(LAST, (('',), (BACK,), (('', 2),))))
        self.gives(1, lets_program, one((('',), (BACK,), (('', 0), ('x', 0), ('y', 0)))))

    def test_the_first_of_two_faults_is_told(self):
        bad_calls, bad_ways, bad_handlers = ((), (BACK,), ()), (('',), (), ()), (('',), (BACK,), (('', 9),))
        self.fault('shape', -1, (G, G, ()))
        self.fault('name', 1, (('f', (bad_calls,)), ('f', (LAST,))))
        self.fault('calls', ('f', 0), one(((), (), (('', 9),))))
        self.fault('ways', ('f', 0), one((('',), (7,), (('', 9),))))
        self.fault('handlers', ('f', 0), one(bad_handlers, bad_calls))
        self.fault('ways', ('f', 0), one(bad_ways, bad_calls))
        self.fault('handlers', ('f', 1), (('f', (LAST, bad_handlers)), ('e', (bad_calls,))))
        self.fault('calls', ('f', 0), one((('zz',), (9,), ())))

    def test_great_numbers(self):
        self.fault('ways', ('f', 0), one((('',), (10 ** 59,), ())))
        self.fault('handlers', ('f', 0), one((('',), (BACK,), (('x', 10 ** 59),))))


if __name__ == '__main__':
    unittest.main()
