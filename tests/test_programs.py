import unittest

from outandover.errors import InvalidPaper, InvalidText, NotUsable
from outandover.kinds import is_function, is_line, is_name, is_program, is_spot
from outandover.programchanges import without_function
from outandover.programparts import lines_of, spots_of
from outandover.programs import SHORTEST, Program
from outandover.programtexts import program_text
from outandover.spotsets import Spots
from outandover.walks import Walk
from checks import Checks
from samples import AGAIN, BACK, F, G, MAIN, PROGRAM, RING, SAMPLES, anything, random_program

H = ('h', ((('f', 'h'), (BACK,), ()),))
LINE = (('',), (BACK,), ())


class ProgramTest(Checks):

    def test_shortest(self):
        self.same((('main', ((('',), (('back',),), ()),)),), SHORTEST)
        self.same(SHORTEST, Program().functions)
        self.same((('main', 0),), Program().spots)

    def test_by_position_and_by_name(self):
        self.same(PROGRAM, Program(PROGRAM).functions)
        self.same(PROGRAM, Program(functions=PROGRAM).functions)

    def test_wrong_programs(self):
        for thing in anything():
            if repr(thing) != repr(PROGRAM):
                self.raises(InvalidPaper, ('shape', -1), Program, thing)
                self.raises(InvalidPaper, ('shape', -1), Program, functions=thing)
        self.raises(InvalidPaper, ('shape', -1), lambda: Program(Program()))
        self.raises(InvalidPaper, ('calls', ('main', 2)), Program, (MAIN, F))
        self.raises(InvalidPaper, ('name', 1), Program, (G, G))

    def test_properties(self):
        for functions in SAMPLES:
            program = Program(functions)
            self.same(functions, program.functions)
            self.same(functions[0][0], program.first)
            self.same(spots_of(functions), program.spots)
            for word in ('functions', 'first', 'spots'):
                with self.assertRaises(AttributeError):
                    setattr(program, word, functions)

    def test_add(self):
        program = Program(PROGRAM)
        self.same(PROGRAM + (H,), (program + H).functions)
        self.same(PROGRAM, program.functions)

    def test_add_a_name_that_exists(self):
        program = Program(PROGRAM)
        for function in (G, ('f', None), ('main', ()), ('g', [LINE]), ('f', (LINE,))):
            self.raises(NotUsable, ('name', function[0]), lambda function=function: program + function)
        self.same(PROGRAM, program.functions)

    def test_add_any_value(self):
        program = Program((G,))
        for thing in anything() + [('g',), ['g', (LINE,)], ('g', (LINE,), ()), (['g'], 0), Program()]:
            if not is_function(thing):
                self.raises(InvalidPaper, ('shape', -1), lambda thing=thing: program + thing)
        self.raises(InvalidPaper, ('calls', ('h', 0)), lambda: program + H)
        self.raises(InvalidPaper, ('ways', ('h', 0)), lambda: program + ('h', ((('g',), (1,), ()),)))
        self.raises(InvalidPaper, ('handlers', ('h', 0)), lambda: program + ('h', ((('g',), (0,), (('', 1),)),)))

    def test_sub(self):
        program = Program(PROGRAM)
        self.same(without_function(PROGRAM, 'g'), (program - 'g').functions)
        self.same(PROGRAM, program.functions)
        for thing in anything() + [Program(), 'h', 'main']:
            if repr(thing) not in ("'f'", "'g'"):
                self.raises(NotUsable, ('name', thing), lambda thing=thing: program - thing)

    def test_item(self):
        program = Program(PROGRAM)
        self.same(MAIN[1], program['main'])
        self.same(G[1], program['g'])
        for thing in anything() + [-1, 2, ('main', 0)]:
            if repr(thing) not in ("'f'", "'g'", "'main'"):
                self.raises(NotUsable, ('name', thing), lambda thing=thing: program[thing])

    def test_it_is_not_iterated_over(self):
        with self.assertRaises(TypeError):
            iter(Program())

    def test_in(self):
        program = Program(PROGRAM)
        for thing in ('main', 'f', 'g', ('f', 1), ('main', 2)):
            self.assertIs(thing in program, True)
        for thing in ('', 'h', 'mainn', ('f', 2), ('f', True), ('f', False), ('g', 1), ('h', 0), ['f', 0], F, 0, None,
                      ('f',), ['f'], PROGRAM, True, program, ('f', 0, 0), (0, 'f')):
            self.assertIs(thing in program, False)
        for thing in anything():
            expected = is_name(thing) and thing in ('main', 'f', 'g') or is_spot(thing) and thing in spots_of(PROGRAM)
            self.assertIs(thing in program, expected)

    def test_len(self):
        self.same([6, 2, 6, 1], [len(Program(functions)) for functions in (PROGRAM, AGAIN, RING, SHORTEST)])

    def test_equal(self):
        self.assertIs(Program(PROGRAM) == Program((MAIN, F, G)), True)
        self.assertIs(Program(PROGRAM) != Program((MAIN, F, G)), False)
        self.assertIs(Program(PROGRAM) == Program((MAIN, G, F)), False)
        self.assertIs(Program() == Program(SHORTEST), True)
        self.assertIs(Program(AGAIN) + G == Program(AGAIN), False)
        for thing in anything() + [PROGRAM, Spots(), Walk(PROGRAM), program_text(PROGRAM)]:
            self.assertIs(Program(PROGRAM) == thing, False)

    def test_text(self):
        for functions in SAMPLES:
            self.same(program_text(functions), str(Program(functions)))

    def test_read(self):
        for functions in SAMPLES + tuple([random_program(seed) for seed in range(20)]):
            self.assertEqual(Program.read(program_text(functions)), Program(functions))
            self.same(functions, Program.read(text=str(Program(functions))).functions)
            self.same(program_text(functions), str(Program.read(program_text(functions))))
        self.assertIsInstance(Program().read('function f\n- back -'), Program)

    def test_read_wrong_texts(self):
        self.raises(InvalidText, (0, 0), Program.read, '')
        self.raises(InvalidText, (2, 1), Program.read, 'function f\nf 0 -\nfunction')
        self.raises(InvalidPaper, ('name', 1), Program.read, 'function f\n- back -\nfunction f\n- back -')
        self.raises(InvalidPaper, ('calls', ('f', 0)), Program.read, 'function f\nf,- back -')
        self.raises(InvalidPaper, ('ways', ('f', 0)), Program.read, 'function f\n- 1 -')
        # The text is told before the program.
        self.raises(InvalidText, (2, 0), Program.read, 'function f\nf,- back -\n')

    def test_one_function(self):
        self.same((('main', (LINE,)),), Program.one_function(LINE).functions)
        self.same((('main', (LINE, (('', 'main'), (0, 1), ()))),),
                  Program.one_function(LINE, (('', 'main'), (0, 1), ())).functions)
        self.assertEqual(Program.one_function(*SHORTEST[0][1]), Program())
        self.assertEqual(Program().one_function(LINE), Program())

    def test_one_function_wrong(self):
        self.raises(InvalidPaper, ('shape', -1), Program.one_function)
        for thing in anything():
            if not is_line(thing):
                self.raises(InvalidPaper, ('shape', -1), Program.one_function, LINE, thing)
        self.raises(InvalidPaper, ('calls', ('main', 1)), Program.one_function, LINE, (('f',), (BACK,), ()))
        self.raises(InvalidPaper, ('ways', ('main', 0)), Program.one_function, (('',), (1,), ()))

    def test_one_more_and_one_less(self):
        for functions in SAMPLES:
            program = Program(functions)
            more = program + ('new', (LINE,))
            self.assertIs(more == program, False)
            self.assertIs(more - 'new' == program, True)
            self.same(len(program) + 1, len(more))
            self.same((LINE,), more['new'])
            self.assertTrue(('new', 0) in more and ('new', 0) not in program)
            self.same(functions, program.functions)


class ObjectsAsValuesTest(Checks):

    def test_objects_are_of_no_kind(self):
        for thing in (Program(), Spots(('f', 0)), Spots(), Walk(AGAIN)):
            for inside in (thing, (thing,), ('f', thing), (thing, 0), ((thing,), (), ()), [thing]):
                for function in (is_function, is_line, is_name, is_program, is_spot):
                    self.assertIs(function(inside), False)

    def test_objects_are_no_names(self):
        for thing in (Program(), Spots(('f', 0)), Walk(AGAIN)):
            with self.assertRaises(NotUsable) as caught:
                lines_of(PROGRAM, thing)
            self.assertIs(caught.exception.at, thing)


if __name__ == '__main__':
    unittest.main()
