"""Each name of the interface exists in the file under which the interface lists it."""

import importlib
import inspect
import unittest

FUNCTIONS = {
    'kinds': {
        'is_integer': 'thing', 'is_number': 'thing', 'is_name': 'thing', 'is_spot': 'thing', 'is_way': 'thing',
        'is_line': 'thing', 'is_function': 'thing', 'is_program': 'thing', 'is_choices': 'thing', 'is_command': 'thing',
    },
    'programchecker': {'lets_program': 'thing'},
    'programparts': {
        'spots_of': 'program', 'lines_of': 'program, name', 'line_at': 'program, spot', 'callers_of': 'program, name',
        'can_call': 'program, name',
    },
    'programchanges': {
        'with_line': 'program, spot, line', 'with_function': 'program, name, lines',
        'without_function': 'program, name', 'renamed': 'program, *pairs',
    },
    'programtexts': {'program_text': 'program', 'line_text': 'line', 'spots_text': 'spots'},
    'programreadings': {'program_read': 'text', 'line_read': 'text', 'spots_read': 'text'},
}

CLASSES = {
    'errors': {
        'StepError': {}, 'PaperError': {}, 'ProgramError': {}, 'SessionError': {}, 'TextError': {},
        'InvalidPaper': {'__init__': 'self, word, at'}, 'NotUsable': {'__init__': 'self, word, at'},
        'InvalidEvent': {'__init__': 'self, event, reason'}, 'NothingToUndo': {'__init__': 'self, steps'},
        'BrokenOff': {'__init__': 'self, count'}, 'InvalidText': {'__init__': 'self, line, field'},
        'InvalidRow': {'__init__': 'self, row'},
    },
}

PROPERTIES = {}


def module_of(name):
    return importlib.import_module(f'outandover.{name}')


class InterfaceTest(unittest.TestCase):

    def test_functions(self):
        for module, table in FUNCTIONS.items():
            for name, parameters in table.items():
                function = getattr(module_of(module), name)
                self.assertTrue(inspect.isfunction(function), name)
                self.assertEqual(function.__module__, f'outandover.{module}')
                self.assertEqual(str(inspect.signature(function)), f'({parameters})')

    def test_classes_and_their_methods(self):
        for module, table in CLASSES.items():
            for name, methods in table.items():
                found = getattr(module_of(module), name)
                self.assertTrue(inspect.isclass(found), name)
                self.assertEqual(found.__module__, f'outandover.{module}')
                for method, parameters in methods.items():
                    own = vars(found)[method]
                    function = own.__func__ if isinstance(own, (classmethod, staticmethod)) else own
                    self.assertEqual(str(inspect.signature(function)), f'({parameters})', f'{name}.{method}')

    def test_properties(self):
        for module, table in PROPERTIES.items():
            for name, words in table.items():
                for word in words.split():
                    self.assertIsInstance(vars(getattr(module_of(module), name))[word], property)


if __name__ == '__main__':
    unittest.main()
