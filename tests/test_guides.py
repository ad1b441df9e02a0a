import unittest
from random import Random

from outandover.errors import InvalidPaper, InvalidText, NotUsable
from outandover.guidechecker import lets_guide
from outandover.guides import Guide
from checks import Checks
from oracle import rule_by_rules
from samples import DEEP, GO, PROGRAM, STEP, WATCH, anything, random_guide

MANY = (
    (('f', 'step', (('f', 0), ('g', 2)), 1), (('g', 3), 'go', (), 0), ('', 'out', (('g', 2), ('zz', 9)), 0)),
    (('', 'next', (), 0), ('f', 'go', (('a', 0),), 1), ('', 'step', (('b', 0),), 1)),
)
TEXT = '\n'.join(['state', 'f step f:0,g:2 1', 'g:3 go - 0', '* out g:2,zz:9 0', 'state', '* next - 0', 'f go a:0 1',
                  '* step b:0 1'])


def guides(many):
    """Guides by chance."""
    return [random_guide(Random(seed), (PROGRAM, DEEP)[seed % 2], 6, 4, 8) for seed in range(many)]


class GuideTest(Checks):

    def test_of_the_document(self):
        watch = Guide(WATCH)
        self.same('state\nf step - 0\n* next g:0 0', str(watch))
        self.same(('next', (('g', 0),), 0), watch(0, ('main', 7)))
        self.same((), watch.without(0, 1, ('g', 0)).breaks)
        self.same((('', 'go', (('g', 0), ('h', 1)), 0),), Guide.read('state\n* go g:0,h:1 0')[0])
        self.raises(InvalidText, (3, 0), Guide.read, 'state\nf step - 0\nstate')

    def test_errors_of_lets_guide(self):
        for thing in anything():
            self.raises(InvalidPaper, ('shape', -1), Guide, thing)
        self.raises(InvalidPaper, ('breaks', (0, 0)), Guide, states=((('', 'go', (('g', 0), ('f', 0)), 0),),))
        self.raises(InvalidPaper, ('state', (0, 0)), Guide, ((('f', 'go', (), 1),),))
        self.raises(InvalidPaper, ('last', 0), Guide, ((('f', 'go', (), 0),),))
        with self.assertRaises(TypeError):
            Guide()

    def test_states_and_length(self):
        for states in guides(30) + [MANY]:
            guide = Guide(states=states)
            self.same(states, guide.states)
            self.same(len(states), len(guide))
            for s, state in enumerate(states):
                self.same(state, guide[s])
        with self.assertRaises(AttributeError):
            Guide(GO).states = STEP
        with self.assertRaises(TypeError):
            list(Guide(GO))

    def test_breaks(self):
        self.same((('a', 0), ('b', 0), ('f', 0), ('g', 2), ('zz', 9)), Guide(MANY).breaks)
        self.same((), Guide(STEP).breaks)
        for states in guides(60):
            found = sorted({spot for state in states for rule in state for spot in rule[2]})
            self.same(tuple(found), Guide(states).breaks)

    def test_call(self):
        guide = Guide(MANY)
        self.same(('step', (('f', 0), ('g', 2)), 1), guide(0, ('f', 7)))
        self.same(('go', (), 0), guide(state=0, spot=('g', 3)))
        self.same(('out', (('g', 2), ('zz', 9)), 0), guide(0, ('g', 2)))
        self.same(('next', (), 0), guide(1, ('f', 0)))
        for states in guides(60):
            guide = Guide(states)
            for s in range(len(states)):
                for spot in [(name, k) for name in ('main', 'f', 'g', 'a', 'zz', 'new') for k in (0, 1, 2, 10 ** 59)]:
                    self.gives(rule_by_rules(states, s, spot)[1:], guide, s, spot)

    def test_the_first_rule_that_applies(self):
        rules = (('f', 'step', (), 0), (('f', 1), 'next', (), 0), (('g', 0), 'out', (), 0), ('g', 'go', (), 0),
                 ('', 'next', (('g', 9),), 0))
        guide = Guide((rules,))
        self.same([('step', (), 0), ('out', (), 0), ('go', (), 0), ('next', (('g', 9),), 0)],
                  [guide(0, spot) for spot in (('f', 1), ('g', 0), ('g', 1), ('h', 0))])

    def test_equality(self):
        self.assertTrue(Guide(GO) == Guide(GO))
        self.assertFalse(Guide(GO) == Guide(STEP))
        self.assertTrue(Guide(MANY) != Guide(MANY[::-1]))
        for thing in anything() + [GO, list(GO), str(Guide(GO))]:
            self.assertIs(Guide(GO) == thing, False)

    def test_nothing_changes_a_guide(self):
        guide, other = Guide(MANY), Guide(MANY)
        less = guide.without(0, 2, ('zz', 9))
        less(0, ('f', 0))
        str(less)
        less.without(0, 0, ('f', 0))
        self.same(MANY, guide.states)
        self.assertTrue(guide == other)
        self.assertFalse(guide == less)


class WrongTest(Checks):

    def test_state(self):
        guide = Guide(MANY)
        for thing in anything():
            if repr(thing) in ('0', '1'):
                continue
            self.raises(NotUsable, ('state', thing), guide, thing, None)
            self.raises(NotUsable, ('state', thing), guide.__getitem__, thing)
            self.raises(NotUsable, ('state', thing), guide.without, thing, True, None)
        self.raises(NotUsable, ('state', 2), guide, 2, ('f', 0))
        self.raises(NotUsable, ('state', -1), guide.__getitem__, -1)
        self.raises(NotUsable, ('state', 1), Guide(GO).without, 1, 0, ('g', 0))

    def test_spot_of_a_call(self):
        guide = Guide(MANY)
        for thing in anything():
            if repr(thing) not in ("('f', 0)", "('life', 0)"):
                self.raises(NotUsable, ('spot', thing), guide, 0, thing)

    def test_rule(self):
        guide = Guide(MANY)
        for thing in anything():
            if repr(thing) not in ('0', '1'):
                self.raises(NotUsable, ('rule', thing), guide.without, 1, thing, None)
        self.raises(NotUsable, ('rule', 3), guide.without, state=0, rule=3, spot=('f', 0))

    def test_spot_of_without(self):
        guide = Guide(MANY)
        for thing in anything() + [('g', 0), ('f', 2), ('zz', 9), ('g', 3)]:
            if repr(thing) != "('f', 0)":
                self.raises(NotUsable, ('spot', thing), guide.without, 0, 0, thing)
        self.raises(NotUsable, ('spot', ('f', 0)), guide.without, 0, 1, ('f', 0))
        self.raises(NotUsable, ('spot', ('a', False)), guide.without, 1, 1, ('a', False))

    def test_without(self):
        guide = Guide(MANY)
        less = guide.without(state=0, rule=0, spot=('g', 2))
        self.same((('f', 'step', (('f', 0),), 1),) + MANY[0][1:], less[0])
        self.same(MANY[1], less[1])
        self.same(guide.breaks, less.breaks)
        for states in guides(40):
            guide = Guide(states)
            for s, state in enumerate(states):
                for r, rule in enumerate(state):
                    for spot in rule[2]:
                        found = guide.without(s, r, spot)
                        self.assertIs(found.__class__, Guide)
                        left = list(rule[2])
                        left.remove(spot)
                        changed = (rule[0], rule[1], tuple(left), rule[3])
                        self.same(states[:s] + (state[:r] + (changed,) + state[r + 1:],) + states[s + 1:], found.states)
            self.same(states, guide.states)


class TextTest(Checks):

    def test_written_and_read(self):
        self.same(TEXT, str(Guide(MANY)))
        self.same(MANY, Guide.read(text=TEXT).states)
        for states in guides(80):
            text = str(Guide(states))
            self.same(states, Guide.read(text).states)
            self.same(text, str(Guide.read(text)))

    def test_state_as_a_name(self):
        states = ((('state', 'go', (('state', 0),), 0), (('state', 3), 'out', (), 0), ('', 'step', (), 0)),)
        text = 'state\nstate go state:0 0\nstate:3 out - 0\n* step - 0'
        self.same(text, str(Guide(states)))
        self.same(states, Guide.read(text).states)
        self.raises(InvalidText, (1, 1), Guide.read, 'state\nstate ')
        self.raises(InvalidText, (0, 0), Guide.read, 'state ')
        self.raises(InvalidText, (1, 2), Guide.read, 'state\nstate go\n* go - 0')
        self.raises(InvalidText, (1, 0), Guide.read, 'state\nState go - 0')

    def test_rows_that_begin_a_state(self):
        self.raises(InvalidText, (0, 0), Guide.read, '')
        self.raises(InvalidText, (0, 0), Guide.read, '\n')
        self.raises(InvalidText, (0, 0), Guide.read, '* go - 0')
        self.raises(InvalidText, (0, 0), Guide.read, '\nstate\n* go - 0')
        self.raises(InvalidText, (1, 0), Guide.read, 'state')
        self.raises(InvalidText, (1, 0), Guide.read, 'state\nstate\n* go - 0')
        self.raises(InvalidText, (3, 0), Guide.read, 'state\n* go - 0\nstate')
        self.raises(InvalidText, (3, 0), Guide.read, 'state\n* go - 0\nstate\nstate')
        self.raises(InvalidText, (2, 0), Guide.read, 'state\n* go - 0\n')
        self.raises(InvalidText, (1, 0), Guide.read, 'state\n')
        self.raises(InvalidText, (1, 0), Guide.read, 'state\n\n* go - 0')
        self.raises(InvalidText, (3, 0), Guide.read, 'state\n* go - 0\nstate\n')
        self.raises(InvalidText, (1, 0), Guide.read, 'state\n state')

    def test_each_word_spoilt(self):
        right = ['f:1', 'next', 'f:0,g:2', '1']
        spoilt = [
            ('', '-', 'F', 'f:', ':1', 'f:01', 'f:-1', 'f,g', '**', 'f*', 'ninechars', 'f:1:2', 'f:' + '1' * 61, '""'),
            ('', 'Next', 'back', '-', '*', 'next,', 'go\t', 'nextout'),
            ('', '*', 'f', 'f:0,', ',f:0', 'f:0,-', '-,f:0', 'f:0,,g:2', 'f:00', 'f:0;g:2', '--', 'f:0,g'),
            ('', '-', '01', '-1', 'a', '1,', '1' * 61, '+1', '1.0'),
        ]
        for field, words in enumerate(spoilt):
            for word in words:
                row = right[:field] + [word] + right[field + 1:]
                self.raises(InvalidText, (2, field), Guide.read, '\n'.join(['state', '* go - 0', ' '.join(row)]))
                for later in range(field + 1, 4):
                    twice = row[:later] + ['?'] + row[later + 1:]
                    self.raises(InvalidText, (1, field), Guide.read, '\n'.join(['state', ' '.join(twice), '?']))

    def test_missing_words_and_more(self):
        for row, field in (('f', 1), ('f go', 2), ('f go -', 3), ('f go - 0 0', 4), ('f go - 0 ', 4), ('f  go - 0', 1),
                           (' f go - 0', 0), ('f go - 0  0', 4), ('f go f:0 g:0 0', 3), ('*', 1), ('f go -  0', 3)):
            self.raises(InvalidText, (1, field), Guide.read, 'state\n' + row)
            self.raises(InvalidText, (1, field), Guide.read, 'state\n' + row + '\nstate')

    def test_numbers(self):
        long = '9' * 60
        self.raises(InvalidPaper, ('state', (0, 0)), Guide.read, f'state\n* go - {long}')
        self.same(((('', 'go', (('f', int(long)),), 0),),), Guide.read(f'state\n* go f:{long} 0').states)
        self.raises(InvalidText, (1, 3), Guide.read, f'state\n* go - {long}9')
        self.raises(InvalidText, (1, 2), Guide.read, f'state\n* go f:{long}9 0')

    def test_errors_of_lets_guide_behind_a_text_that_reads(self):
        self.raises(InvalidPaper, ('breaks', (0, 0)), Guide.read, 'state\n* go g:0,f:0 0')
        self.raises(InvalidPaper, ('breaks', (0, 0)), Guide.read, 'state\n* go g:0,g:0 9')
        self.raises(InvalidPaper, ('state', (1, 0)), Guide.read, 'state\n* go - 1\nstate\nf go - 2')
        self.raises(InvalidPaper, ('last', 0), Guide.read, 'state\n* go - 0\nf go - 0')
        self.raises(InvalidText, (3, 0), Guide.read, 'state\nf go g:0,f:0 7\nstate')

    def test_any_string(self):
        chance = Random(3)
        rows = ['state', '* go - 0', 'f step f:0,g:0 1', 'f:0 out - 0', '* next f:0 1', '', '* go g:0,f:0 0', 'f go 0']
        met = {}
        for _ in range(4000):
            text = '\n'.join(['state'] + [chance.choice(rows) for _ in range(chance.randint(1, 5))])
            try:
                guide = Guide.read(text)
            except (InvalidText, InvalidPaper) as error:
                met[error.__class__] = met.get(error.__class__, 0) + 1
                continue
            met[Guide] = met.get(Guide, 0) + 1
            self.same(text, str(guide))
            self.same(len(guide), lets_guide(guide.states))
        self.assertEqual(len(met), 3)


if __name__ == '__main__':
    unittest.main()
