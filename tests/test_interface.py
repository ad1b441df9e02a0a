"""Each name of the interface exists in the file under which the interface lists it."""

import importlib
import inspect
import unittest

from outandover.programs import SHORTEST

FUNCTIONS = {
    'kinds': {
        'is_integer': 'thing', 'is_number': 'thing', 'is_name': 'thing', 'is_spot': 'thing', 'is_way': 'thing',
        'is_line': 'thing', 'is_function': 'thing', 'is_program': 'thing', 'is_choices': 'thing', 'is_command': 'thing',
    },
    'programchecker': {'lets_program': 'thing'},
    'programparts': {
        'spots_of': 'program', 'lines_of': 'program, name', 'line_at': 'program, spot', 'callers_of': 'program, name',
        'can_call': 'program, name',
    },
    'programchanges': {
        'with_line': 'program, spot, line', 'with_function': 'program, name, lines',
        'without_function': 'program, name', 'renamed': 'program, *pairs',
    },
    'programtexts': {'program_text': 'program', 'line_text': 'line', 'spots_text': 'spots'},
    'programreadings': {'program_read': 'text', 'line_read': 'text', 'spots_read': 'text'},
    'choosing': {
        'options_after': 'program, run', 'is_run': 'program, thing', 'arrivals_of': 'program, run',
        'frames_after': 'program, run', 'is_behind': 'program, run', 'end_of': 'program, run',
    },
    'listing': {'runs_of': 'program, count', 'how_many_runs': 'program, count'},
    'packedchecker': {'lets_packed': 'program, thing'},
    'packing': {
        'written_out': 'program, packed', 'packed_of': 'program, run', 'arrivals_in': 'program, packed, *, at=()',
        'frames_behind': 'program, packed', 'end_behind': 'program, packed', 'joined': 'program, packed, other',
    },
    'tables': {
        'least_table': 'program, *, cut=()', 'rest_of': 'program, spot, *, cut=()',
        'inside_of': 'program, spot, *, cut=()',
    },
    'tablechecker': {'lets_table': 'program, thing, *, cut=()'},
    'reaching': {'nearest': 'program, spot', 'distance': 'program, spot', 'nearest_end': 'program, name, end'},
    'reachpapers': {'reach_paper': 'program, spot'},
    'reachchecker': {'lets_reach': 'program, spot, thing'},
    'safety': {
        'is_safe': 'program, wished, spot, command', 'furthest': 'program, wished, spot',
        'quiet_spots': 'program, wished', 'unsafe_rest': 'program, wished, spot, command',
    },
    'safepapers': {'safe_paper': 'program, wished, spot, command'},
    'safechecker': {'lets_safe': 'program, wished, spot, command, thing'},
    'stepping': {'stops_of': 'program, run, stepper', 'passed_by': 'program, wished, run, stepper'},
    'bounds': {'most_stops': 'program, wished', 'fewest_stops': 'program, wished'},
    'boundpapers': {'stops_paper': 'program, wished'},
    'boundchecker': {'lets_stops': 'program, wished, thing'},
    'landing': {
        'halts_of': 'program, frames, command, *, breaks=()', 'on_the_way': 'program, frames, command, *, breaks=()',
        'may_end': 'program, frames, command, *, breaks=()',
    },
    'plans': {
        'least_plan': 'program, frames, command, *, breaks=()',
        'is_right': 'program, frames, command, plan, *, breaks=()',
        'plan_fault': 'program, frames, command, plan, *, breaks=()',
    },
    'planpapers': {'plan_paper': 'program, frames, command, plan, *, breaks=()'},
    'planchecker': {'lets_plan': 'program, frames, command, plan, thing, *, breaks=()'},
    'guidechecker': {'lets_guide': 'thing'},
    'following': {'guide_stops': 'program, guide, run', 'stops_in': 'program, guide, packed'},
    'comparing': {
        'is_within': 'program, guide, other', 'breach': 'program, guide, other', 'are_alike': 'program, guide, other',
    },
    'comparepapers': {'within_paper': 'program, guide, other'},
    'comparechecker': {'lets_within': 'program, guide, other, thing'},
    'everywhere': {
        'free_programs': 'guide, other', 'is_within_everywhere': 'guide, other', 'are_alike_everywhere': 'guide, other',
        'breach_everywhere': 'guide, other',
    },
    'paring': {'needless': 'program, guide', 'pared': 'program, guide'},
    'eventkinds': {'is_event': 'thing', 'is_log': 'thing'},
    'through': {'told_through': 'session, commands'},
    'replaying': {'replayed': 'log'},
    'eventtexts': {'event_line': 'event', 'log_lines': 'log'},
    'eventreadings': {'read_event': 'text', 'read_log': 'lines'},
}

CLASSES = {
    'errors': {
        'StepError': {}, 'PaperError': {}, 'ProgramError': {}, 'SessionError': {}, 'TextError': {},
        'InvalidPaper': {'__init__': 'self, word, at'}, 'NotUsable': {'__init__': 'self, word, at'},
        'InvalidEvent': {'__init__': 'self, event, reason'}, 'NothingToUndo': {'__init__': 'self, steps'},
        'BrokenOff': {'__init__': 'self, count'}, 'InvalidText': {'__init__': 'self, line, field'},
        'InvalidRow': {'__init__': 'self, row'},
    },
    'programs': {
        'Program': {
            '__init__': f'self, functions={SHORTEST!r}', '__add__': 'self, other', '__sub__': 'self, other',
            '__getitem__': 'self, at', '__contains__': 'self, x', '__len__': 'self', '__eq__': 'self, other',
            '__str__': 'self', 'read': 'cls, text', 'one_function': '*lines',
        },
    },
    'spotsets': {
        'Spots': {
            '__init__': 'self, *spots', '__or__': 'self, other', '__and__': 'self, other', '__sub__': 'self, other',
            '__xor__': 'self, other', '__ior__': 'self, other', '__iand__': 'self, other', '__isub__': 'self, other',
            'lies_in': 'self, other', '__contains__': 'self, x', '__len__': 'self', '__eq__': 'self, other',
            '__str__': 'self', '__iter__': 'self', 'of_program': 'cls, program', 'read': 'cls, text',
        },
    },
    'walks': {
        'Walk': {
            '__init__': 'self, program', 'take': 'self, choice', 'take_all': 'self, *choices', 'back': 'self',
            'copy': 'self', 'set_given': 'self, choice', '__len__': 'self', '__iter__': 'self',
            '__getitem__': 'self, at', '__eq__': 'self, other', '__call__': 'self, choices',
        },
    },
    'steppers': {
        'Stepper': {'told': 'self, run', '__call__': 'self, run'},
        'Furthest': {'__init__': 'self, program, wished', 'told': 'self, run', '__call__': 'self, run'},
        'Fixed': {'__init__': 'self, *words', 'told': 'self, run', '__call__': 'self, run'},
        'Counting': {'__init__': 'self', 'told': 'self, run', '__call__': 'self, run'},
        'CountingFurthest': {'__init__': 'self, program, wished', 'told': 'self, run', '__call__': 'self, run'},
    },
    'guides': {
        'Guide': {
            '__init__': 'self, states', '__call__': 'self, state, spot', '__getitem__': 'self, at', '__len__': 'self',
            '__eq__': 'self, other', 'without': 'self, state, rule, spot', '__str__': 'self', 'read': 'cls, text',
        },
    },
    'breakpoints': {
        'Breaks': {
            '__init__': 'self, *spots', '__getitem__': 'self, at', '__setitem__': 'self, at, worth',
            '__contains__': 'self, x', '__len__': 'self', '__iter__': 'self', '__or__': 'self, other',
            '__sub__': 'self, other', '__ior__': 'self, other', '__isub__': 'self, other',
        },
    },
    'sessions': {
        'Session': {
            '__init__': 'self, program, *, wished=()', 'feed': 'self, choices', 'tell': 'self, command',
            'set_break': 'self, spot, on', 'clear_break': 'self, spot', 'set_wished': 'self, spots', 'go': 'self, event',
            '__call__': 'self, command', 'tried': 'self, *events', 'undo': 'self',
            'do_all': 'self, *events, keep=False', 'planted': 'self', 'advice': 'self', 'counts': 'self', 'log': 'self',
            '__enter__': 'self', '__exit__': 'self, kind, value, trace',
        },
    },
    'desk': {'Desk': {'__init__': 'self', 'say': 'self, row', 'counts': 'self'}},
}

PROPERTIES = {
    'programs': {'Program': 'functions first spots'},
    'spotsets': {'Spots': 'members'},
    'walks': {'Walk': 'choices frames here is_over options given'},
    'guides': {'Guide': 'states breaks'},
    'breakpoints': {'Breaks': 'on'},
    'sessions': {'Session': 'state here frames wished passed'},
}


def module_of(name):
    return importlib.import_module(f'outandover.{name}')


class InterfaceTest(unittest.TestCase):

    def test_functions(self):
        for module, table in FUNCTIONS.items():
            for name, parameters in table.items():
                function = getattr(module_of(module), name)
                self.assertTrue(inspect.isfunction(function), name)
                self.assertEqual(function.__module__, f'outandover.{module}')
                self.assertEqual(str(inspect.signature(function)), f'({parameters})')

    def test_classes_and_their_methods(self):
        for module, table in CLASSES.items():
            for name, methods in table.items():
                found = getattr(module_of(module), name)
                self.assertTrue(inspect.isclass(found), name)
                self.assertEqual(found.__module__, f'outandover.{module}')
                for method, parameters in methods.items():
                    own = vars(found)[method]
                    function = own.__func__ if isinstance(own, (classmethod, staticmethod)) else own
                    self.assertEqual(str(inspect.signature(function)), f'({parameters})', f'{name}.{method}')

    def test_kinds_of_methods(self):
        for name, word, kind in (('programs', 'read', classmethod), ('programs', 'one_function', staticmethod),
                                 ('spotsets', 'read', classmethod), ('spotsets', 'of_program', classmethod),
                                 ('guides', 'read', classmethod)):
            found = [own for own in vars(module_of(name)).values() if inspect.isclass(own) and word in vars(own)]
            self.assertEqual([vars(own)[word].__class__ for own in found], [kind])

    def test_class_values(self):
        self.assertEqual(vars(module_of('sessions').Session)['MOST'], 40)

    def test_constants(self):
        self.assertEqual(vars(module_of('programs'))['SHORTEST'], SHORTEST)

    def test_the_families_of_errors(self):
        errors = module_of('errors')
        families = {
            'PaperError': 'InvalidPaper', 'ProgramError': 'NotUsable',
            'SessionError': 'InvalidEvent NothingToUndo BrokenOff', 'TextError': 'InvalidText InvalidRow',
        }
        self.assertEqual(errors.StepError.__bases__, (ValueError,))
        for family, names in families.items():
            self.assertEqual(getattr(errors, family).__bases__, (errors.StepError,))
            for name in names.split():
                self.assertEqual(getattr(errors, name).__bases__, (getattr(errors, family),))

    def test_setters(self):
        for module, name, word in (('walks', 'Walk', 'given'), ('sessions', 'Session', 'wished')):
            self.assertIsNotNone(vars(getattr(module_of(module), name))[word].fset)

    def test_attributes(self):
        walk = module_of('walks').Walk(SHORTEST)
        self.assertIn('program', vars(walk))
        steppers = module_of('steppers')
        for stepper in (steppers.Counting(), steppers.CountingFurthest(SHORTEST, ())):
            self.assertIn('asked', vars(stepper))

    def test_properties(self):
        for module, table in PROPERTIES.items():
            for name, words in table.items():
                for word in words.split():
                    self.assertIsInstance(vars(getattr(module_of(module), name))[word], property)


if __name__ == '__main__':
    unittest.main()
