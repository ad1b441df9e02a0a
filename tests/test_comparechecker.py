import unittest
from random import Random

from outandover.comparechecker import lets_within
from outandover.comparepapers import within_paper
from outandover.comparing import breach, is_within
from outandover.errors import InvalidPaper
from outandover.packedchecker import lets_packed
from outandover.packing import arrivals_in
from checks import Checks
from oracle import Closure, guide_stops_by_rules, machine_behind, packed_by_chance, rows_by_rules, written
from samples import (
    AGAIN, BACK, DEEP, F, G, GO, PACKED, PROGRAM, RUN, STEP, TWICE, WATCH, anything, bolder, guided_programs, nested,
    random_guide, random_run,
)

LANDS = ('lands', 0)
BOTH = (LANDS, LANDS)
ROW = ('g', BOTH, ((0, BOTH),), ((BACK, BOTH),))
NEXT = ((('', 'next', (), 0),),)
OUT = ((('', 'out', (), 0),),)
FAIL = ('fail', 'bad')


def cases(many, states=3, rules=3, breaks=2):
    """Programs, and two guides of which the first one is within the other."""
    programs = guided_programs()
    for seed in range(many):
        chance = Random(seed)
        program = programs[seed % len(programs)]
        guide = random_guide(chance, program, states, rules, breaks)
        other = random_guide(chance, program, states, rules, breaks)
        for one, two in ((guide, other), (other, guide), (bolder(chance, program, guide), guide), (guide, guide)):
            if is_within(program, one, two):
                yield chance, program, one, two
                break


def fault_by_rules(program, guides, rows):
    """The first fault of rows that are such by form, taken from the words of the document."""
    functions = dict(program)
    told = Closure(program, guides)
    for k, (name, pair, arrivals, ends) in enumerate(rows):
        if k and not (name, pair) > rows[k - 1][:2]:
            return ('row', k)
        if name not in functions or [index for index, _ in arrivals if index >= len(functions[name])]:
            return ('row', k)
        for own in [pair] + [part[1] for part in arrivals] + [part[1] for part in ends]:
            for guide, situation in zip(guides, own):
                if situation[1] >= len(guide):
                    return ('row', k)
                if situation[0] != 'lands' and situation[2] >= len(guide[situation[1]]):
                    return ('row', k)
    table = {row[:2]: row for row in rows}
    if list(told.rows)[0] not in table:
        return ('first', -1)
    for k, (name, pair, arrivals, ends) in enumerate(rows):
        if (0, pair) not in arrivals:
            return ('begin', k)
        for i, (index, own) in enumerate(arrivals):
            word = element_fault(told, functions, table, (name, index, own), arrivals, ends)
            if word:
                return (word, (k, i))
    return None


def element_fault(told, functions, table, element, arrivals, ends):
    name, index, own = element
    calls, ways, handlers = functions[name][index]
    outcomes = [(BACK, own)] if '' in calls else []
    for call in calls:
        if call:
            told.fails = False
            inner = told.arrived(own, (call, 0), True)
            if told.fails or (call, inner) not in table:
                return 'entered'
            for end, over in table[(call, inner)][3]:
                outcomes.append((end, tuple([a if b[0] == 'kept' else b for a, b in zip(own, over)])))
    reached, over = [], []
    for end, pair in outcomes:
        for way in ways if end == BACK else (end,):
            fitting = [at for kind, at in handlers if isinstance(way, tuple) and way[0] == 'fail' and kind in ('', way[1])]
            way = fitting[0] if fitting else way
            (over if isinstance(way, tuple) else reached).append((way, pair))
    told.fails = False
    behind = [(way, told.arrived(pair, (name, way), False)) for way, pair in reached]
    if told.fails or set(behind) - set(arrivals):
        return 'arrivals'
    return 'ends' if {(end, told.ended(pair)) for end, pair in over} - set(ends) else ''


class PaperTest(Checks):

    def test_of_the_document(self):
        self.gives(('closed', (ROW,)), within_paper, (G,), STEP, STEP)
        self.gives(False, lets_within, PROGRAM, WATCH, GO, ('breach', ((('main', 0),), (), (0, 0, 1))))
        self.raises(InvalidPaper, ('first', -1), lets_within, (G,), STEP, STEP, ('closed', ()))

    def test_the_rows_are_those_of_a_plain_closure(self):
        met = 0
        for _, program, guide, other in cases(700):
            rows = rows_by_rules(program, guide, other)
            self.gives(('closed', rows), within_paper, program, guide, other)
            self.gives(True, lets_within, program, guide, other, ('closed', rows))
            met += len(rows) > 4
        self.assertGreater(met, 60)

    def test_the_rows_of_larger_guides(self):
        for _, program, guide, other in cases(150, 6, 4, 6):
            rows = rows_by_rules(program, guide, other)
            self.gives(('closed', rows), within_paper, program=program, guide=guide, other=other)
            self.gives(True, lets_within, program=program, guide=guide, other=other, thing=('closed', rows))

    def test_breaches(self):
        met = 0
        programs = guided_programs()
        for seed in range(500):
            chance = Random(seed)
            program = programs[seed % len(programs)]
            guide, other = random_guide(chance, program), random_guide(chance, program)
            paper = within_paper(program, guide, other)
            self.assertEqual(paper[0] == 'closed', is_within(program, guide, other))
            if paper[0] == 'breach':
                met += 1
                self.gives(False, lets_within, program, guide, other, paper)
                self.assertEqual(len(paper), 2)
                self.assertIsNone(rows_by_rules(program, guide, other))
                self.assertEqual(arrivals_in(program, paper[1]), arrivals_in(program, breach(program, guide, other)))
        self.assertGreater(met, 100)

    def test_rows_of_each_word(self):
        guide = ((('main', 'step', (), 0), (('f', 0), 'next', (), 0), ('f', 'go', (), 0), ('', 'out', (), 0)),)
        rows = within_paper(PROGRAM, guide, guide)[1]
        words = {situation[0] for row in rows for own in [row[1]] + [part[1] for part in row[2]] for situation in own}
        self.assertEqual(words, {'lands', 'here', 'below', 'never'})
        rows = within_paper(PROGRAM, NEXT, NEXT)[1]
        self.same(('main', (('here', 0, 0), ('here', 0, 0))), rows[-1][:2])
        self.same(('f', (('kept', 0, 0), ('kept', 0, 0))), rows[0][:2])
        # The pair of a frame that has ended is that which it has then.
        self.same(((BACK, (LANDS, LANDS)),), rows[-1][3])
        self.same(((BACK, (('kept', 0, 0), ('kept', 0, 0))), (FAIL, (('kept', 0, 0), ('kept', 0, 0)))), rows[0][3])
        rows = within_paper(PROGRAM, OUT, STEP)[1]
        self.same(('f', (('kept', 0, 0), LANDS)), rows[0][:2])
        self.same(((BACK, (LANDS, LANDS)),), rows[-1][3])


class ShapeTest(Checks):

    def test_any_value(self):
        for thing in anything() + [('closed',), ('closed', (ROW,), 0), ['closed', (ROW,)], ('Closed', (ROW,)), ('breach',),
                                   ('run', PACKED), ('breach', PACKED, 0), ((ROW,), 'closed'), (True, (ROW,)),
                                   ('closed', ROW), ('closed', [ROW]), ('closed', None), nested(29, ('closed', ()))]:
            self.raises(InvalidPaper, ('shape', -1), lets_within, (G,), STEP, STEP, thing)
        for thing in anything():
            if repr(thing) != '()':
                self.raises(InvalidPaper, ('shape', -1), lets_within, (G,), STEP, STEP, ('closed', thing))
            self.raises(InvalidPaper, ('shape', -1), lets_within, (G,), STEP, STEP, ('closed', (ROW, thing)))

    def test_parts_of_a_row(self):
        for thing in anything():
            for row in ((('g', thing) + ROW[2:]), ROW[:3] + (thing,), ROW[:2] + (thing,) + ROW[3:],
                        (thing,) + ROW[1:], ('g', (thing, LANDS)) + ROW[2:], ('g', (LANDS, thing)) + ROW[2:],
                        ROW[:2] + ((thing,),) + ROW[3:], ROW[:3] + ((thing,),), ROW[:2] + (((thing, BOTH),),) + ROW[3:],
                        ROW[:2] + (((0, thing),),) + ROW[3:], ROW[:3] + (((thing, BOTH),),), ROW[:3] + (((BACK, thing),),)):
                if fits(row):
                    continue
                self.raises(InvalidPaper, ('shape', -1), lets_within, (G,), STEP, STEP, ('closed', (row,)))

    def test_situations(self):
        for situation in (('lands',), ('lands', 0, 0), ('here', 0), ('below', 0), ('never', 0), ('kept', 0),
                          ('here', 0, 0, 0), ('Lands', 0), ('', 0), ('next', 0, 0), ('lands', -1), ('lands', True),
                          ('here', 0, True), ('kept', False, 0), ('never', 0, -1), ['lands', 0], 'lands', (), ('lands', None),
                          (0, 'lands'), ('here', '0', 0), (('lands',), 0)):
            for own in ((situation, LANDS), (LANDS, situation)):
                for row in (('g', own) + ROW[2:], ROW[:2] + (((0, own),), ROW[3]), ROW[:3] + (((BACK, own),),)):
                    self.raises(InvalidPaper, ('shape', -1), lets_within, (G,), STEP, STEP, ('closed', (row,)))
        for own in (BOTH + (LANDS,), (LANDS,), [LANDS, LANDS], ()):
            self.raises(InvalidPaper, ('shape', -1), lets_within, (G,), STEP, STEP, ('closed', (('g', own) + ROW[2:],)))

    def test_sets(self):
        one, two = (0, BOTH), (1, BOTH)
        for arrivals in ((two, one), (one, one), [one], (one, [1, BOTH]), (one + (0,),), ((True, BOTH),), ((-1, BOTH),),
                         ((0, (LANDS, ('lands', 1))), (0, BOTH))):
            self.raises(InvalidPaper, ('shape', -1), lets_within, (G,), STEP, STEP,
                        ('closed', (ROW[:2] + (arrivals, ROW[3]),)))
        one, two = (BACK, BOTH), (FAIL, BOTH)
        for ends in ((two, one), (one, one), [one], (one, [FAIL, BOTH]), (one + (0,),), (((), BOTH),), ((0, BOTH),),
                     ((('fail', ''), BOTH),), ((('back', 'bad'), BOTH),)):
            self.raises(InvalidPaper, ('shape', -1), lets_within, (G,), STEP, STEP, ('closed', (ROW[:3] + (ends,),)))

    def test_shape_ahead_of_all(self):
        self.raises(InvalidPaper, ('shape', -1), lets_within, (G,), STEP, STEP, ('closed', (('zz',) + ROW[1:], None)))


def fits(row):
    """Whether a row, in which something was exchanged, is one by form nevertheless."""
    def is_situation(thing):
        return repr(thing) == repr(LANDS)

    def is_own(thing):
        return isinstance(thing, tuple) and len(thing) == 2 and all([is_situation(part) for part in thing])

    def is_set(thing, first):
        if not isinstance(thing, tuple) or len(thing) > 1:
            return thing == ()
        return all([isinstance(part, tuple) and len(part) == 2 and repr(part[0]) in first and is_own(part[1])
                    for part in thing])

    numbers, ends = [repr(k) for k in (0, 1, 10 ** 59)], [repr(end) for end in (BACK, FAIL)]
    names = ('f', 'main', 'again', 'step', 'g')
    return (len(row) == 4 and isinstance(row[0], str) and row[0] in names and is_own(row[1])
            and is_set(row[2], numbers) and is_set(row[3], ends))


class ClosedTest(Checks):

    def test_row(self):
        for row in (('h',) + ROW[1:], ROW[:2] + (ROW[2] + ((1, BOTH),), ROW[3])):
            self.raises(InvalidPaper, ('row', 0), lets_within, (G,), STEP, STEP, ('closed', (row,)))
        strange = [('lands', 1), ('lands', 10 ** 59)]
        for word in ('here', 'below', 'never', 'kept'):
            strange.extend([(word, 1, 0), (word, 0, 1), (word, 1, 1), (word, 0, 10 ** 59)])
        for situation in strange:
            for own in ((situation, LANDS), (LANDS, situation)):
                for row in (('g', own) + ROW[2:], ROW[:2] + (tuple(sorted(ROW[2] + ((0, own),))), ROW[3]),
                            ROW[:3] + (tuple(sorted(ROW[3] + ((FAIL, own),))),)):
                    self.raises(InvalidPaper, ('row', 0), lets_within, (G,), STEP, STEP, ('closed', (row,)))
                self.raises(InvalidPaper, ('row', 1), lets_within, (G,), STEP, STEP,
                            ('closed', (ROW, ('h', own) + ROW[2:])))

    def test_rules_of_their_own_guide(self):
        # Rule 1 of state 0, and state 1, exist in the one guide, and not in the other.
        own = (('', 'step', (), 0),)
        more = (((('zz', 0), 'go', (), 0),) + own, own)
        for situation in (('kept', 0, 1), ('kept', 1, 0), ('lands', 1)):
            row = ('g', (situation, LANDS), ((0, (situation, LANDS)),), ((BACK, (situation, LANDS)), (BACK, BOTH)))
            rows = tuple(sorted([ROW[:3] + (tuple(sorted(row[3])),), row[:3] + (tuple(sorted(row[3])),)]))
            self.gives(True, lets_within, (G,), more, STEP, ('closed', rows))
            row = ('g', (LANDS, situation), ((0, (LANDS, situation)),), ((BACK, (LANDS, situation)),))
            self.raises(InvalidPaper, ('row', 1 if situation[0] == 'lands' else 0), lets_within, (G,), more, STEP,
                        ('closed', tuple(sorted([ROW, row]))))

    def test_rows_turned_about_and_doubled(self):
        rows = within_paper(PROGRAM, NEXT, STEP)[1]
        self.assertGreater(len(rows), 2)
        for k in range(1, len(rows)):
            self.raises(InvalidPaper, ('row', k), lets_within, PROGRAM, NEXT, STEP,
                        ('closed', rows[:k] + (rows[k - 1],) + rows[k + 1:]))
            turned = rows[:k - 1] + (rows[k], rows[k - 1]) + rows[k + 1:]
            self.raises(InvalidPaper, ('row', k), lets_within, PROGRAM, NEXT, STEP, ('closed', turned))
            # The same name and pair, with other arrivals and ends behind.
            for more in (rows[k - 1][2:3] + ((),), (rows[k - 1][2] + ((1, (('never', 0, 0), LANDS)),), ())):
                twice = rows[:k] + (rows[k - 1][:2] + more,) + rows[k:]
                self.raises(InvalidPaper, ('row', k), lets_within, PROGRAM, NEXT, STEP, ('closed', twice))

    def test_first(self):
        rows = within_paper(PROGRAM, NEXT, STEP)[1]
        self.raises(InvalidPaper, ('first', -1), lets_within, PROGRAM, NEXT, STEP, ('closed', rows[:-1]))
        other = ('g', (LANDS, ('kept', 0, 0)), (), ())
        self.raises(InvalidPaper, ('first', -1), lets_within, (G,), STEP, STEP, ('closed', (other,)))

    def test_begin(self):
        for arrivals in ((), ((0, (LANDS, ('kept', 0, 0))),)):
            self.raises(InvalidPaper, ('begin', 0), lets_within, (G,), STEP, STEP, ('closed', (ROW[:2] + (arrivals, ROW[3]),)))
        rows = within_paper(PROGRAM, NEXT, STEP)[1]
        for k, row in enumerate(rows):
            less = tuple([part for part in row[2] if part != (0, row[1])])
            changed = rows[:k] + (row[:2] + (less, row[3]),) + rows[k + 1:]
            found = fault_by_rules(PROGRAM, (NEXT, STEP), changed)
            self.raises(InvalidPaper, found, lets_within, PROGRAM, NEXT, STEP, ('closed', changed))

    def test_each_part_left_out(self):
        met = {}
        for _, program, guide, other in cases(150):
            rows = within_paper(program, guide, other)[1]
            for k, row in enumerate(rows):
                changes = [rows[:k] + rows[k + 1:]]
                for at in (2, 3):
                    for i in range(len(row[at])):
                        less = row[at][:i] + row[at][i + 1:]
                        changes.append(rows[:k] + (row[:at] + (less,) + row[at + 1:],) + rows[k + 1:])
                for changed in changes:
                    found = fault_by_rules(program, (guide, other), changed)
                    self.assertIsNotNone(found)
                    met[found[0]] = met.get(found[0], 0) + 1
                    self.raises(InvalidPaper, found, lets_within, program, guide, other, ('closed', changed))
        self.assertEqual(sorted(met), ['arrivals', 'begin', 'ends', 'entered', 'first'])
        self.assertGreater(min(met.values()), 50)

    def test_rows_that_have_more(self):
        met = {}
        for chance, program, guide, other in cases(500):
            rows = [list(row) for row in within_paper(program, guide, other)[1]]
            for _ in range(chance.randint(1, 3)):
                self.grow(chance, program, (guide, other), rows)
            changed = tuple(sorted([tuple(row) for row in rows]))
            found = fault_by_rules(program, (guide, other), changed)
            key = found[0] if found else None
            met[key] = met.get(key, 0) + 1
            if found is None:
                self.gives(True, lets_within, program, guide, other, ('closed', changed))
            else:
                self.raises(InvalidPaper, found, lets_within, program, guide, other, ('closed', changed))
        self.assertGreater(min([met[key] for key in (None, 'arrivals', 'ends', 'entered')]), 15)
        self.assertGreater(met['row'], 5)

    def grow(self, chance, program, guides, rows):
        """Something more in one of the rows, or one more row."""
        def situation(guide):
            s = chance.randrange(len(guide))
            r = chance.randrange(len(guide[s]) + (chance.random() < 0.03))
            word = chance.choice(['lands', 'here', 'below', 'never', 'kept'])
            return (word, s) if word == 'lands' else (word, s, r)

        pair = chance.choice([tuple([situation(guide) for guide in guides]), chance.choice(rows)[1]])
        row = chance.choice(rows)
        kind = chance.randrange(3)
        if kind == 0:
            row[2] = tuple(sorted({*row[2], (chance.randrange(len(dict(program)[row[0]])), pair)}))
        elif kind == 1:
            row[3] = tuple(sorted({*row[3], (chance.choice([BACK, ('fail', 'x'), ('fail', 'odd')]), pair)}))
        else:
            name = chance.choice(program)[0]
            if [name, pair] not in [other[:2] for other in rows]:
                rows.append([name, pair, ((0, pair),), chance.choice([(), ((BACK, pair),)])])

    def test_more_than_is_needed(self):
        lone = ('g', (('kept', 0, 0), LANDS), ((0, (('kept', 0, 0), LANDS)),), ((BACK, (('kept', 0, 0), LANDS)),))
        rows = tuple(sorted([ROW, lone]))
        self.gives(True, lets_within, (G,), STEP, STEP, ('closed', rows))
        more = ROW[:3] + (((BACK, BOTH), (('fail', 'odd'), BOTH)),)
        self.gives(True, lets_within, (G,), STEP, STEP, ('closed', (more,)))
        # A row that is not needed must be closed as well.
        self.raises(InvalidPaper, ('ends', (0, 0)), lets_within, (G,), STEP, STEP,
                    ('closed', tuple(sorted([ROW, lone[:3] + ((),)]))))
        # A frame whose call ends by more than it can fails so as well.
        paper = within_paper((F, G), STEP, STEP)
        rows = tuple([row[:3] + (row[3] + ((('fail', 'odd'), BOTH),),) if row[0] == 'g' else row for row in paper[1]])
        self.raises(InvalidPaper, ('ends', (0, 1)), lets_within, (F, G), STEP, STEP, ('closed', rows))

    def test_a_guide_that_is_not_within(self):
        # No rows whatever are accepted: those of the other direction are not.
        rows = within_paper(PROGRAM, GO, WATCH)[1]
        turned = tuple(sorted([(name, pair[::-1], tuple(sorted([(k, own[::-1]) for k, own in arrivals])),
                                tuple(sorted([(end, own[::-1]) for end, own in ends])))
                               for name, pair, arrivals, ends in rows]))
        found = fault_by_rules(PROGRAM, (WATCH, GO), turned)
        self.raises(InvalidPaper, found, lets_within, PROGRAM, WATCH, GO, ('closed', turned))
        self.assertIn(found[0], ('entered', 'arrivals'))

    def test_entered_by_a_breach(self):
        here = ('never', 0, 0)
        rows = (('again', (LANDS, here), ((0, (LANDS, here)), (1, (LANDS, here))), ((BACK, (LANDS, here)),)),)
        self.raises(InvalidPaper, ('entered', (0, 0)), lets_within, AGAIN, STEP, GO, ('closed', rows))
        loop = (('loops', ((('',), (0,), ()),)),)
        rows = (('loops', (LANDS, here), ((0, (LANDS, here)),), ()),)
        self.raises(InvalidPaper, ('arrivals', (0, 0)), lets_within, loop, STEP, GO, ('closed', rows))


class BreachTest(Checks):

    def test_errors_of_lets_packed(self):
        things = anything() + [((('main', 0),), (('g', (0,)),), ()), ((('main', 0),), (), (1,)), ((('main', 3),), (), ()),
                               ((('main', 0),), (('h', ()),), ()), list(PACKED), ((('main', 0),), (), (('life', 0),))]
        for thing in things:
            try:
                lets_packed(PROGRAM, thing)
            except InvalidPaper as error:
                self.raises(InvalidPaper, (error.word, error.at), lets_within, PROGRAM, WATCH, GO, ('breach', thing))
            else:
                self.fail(thing)

    def test_frames(self):
        for frames in ((('f', 0),), (('main', 1),), (('main', 0), ('f', 0))):
            self.raises(InvalidPaper, ('frames', -1), lets_within, PROGRAM, STEP, GO, ('breach', (frames, (), (0, 0))))

    def test_arrival(self):
        for items in ((0, 0), (0, 0, 0, 0), RUN):
            self.raises(InvalidPaper, ('arrival', -1), lets_within, PROGRAM, STEP, GO, ('breach', ((('main', 0),), (), items)))
        self.raises(InvalidPaper, ('arrival', -1), lets_within, PROGRAM, STEP, GO,
                    ('breach', ((('main', 0),), PACKED[1], (0, ('life', 1)))))

    def test_stops(self):
        begins = ((('main', 0),), (), ())
        # At arrival 0 each guide stops.
        self.raises(InvalidPaper, ('stops', -1), lets_within, PROGRAM, STEP, GO, ('breach', begins))
        self.gives(False, lets_within, PROGRAM, STEP, GO, ('breach', begins[:2] + ((0,),)))
        self.raises(InvalidPaper, ('stops', -1), lets_within, PROGRAM, GO, STEP, ('breach', begins[:2] + ((0,),)))
        self.raises(InvalidPaper, ('stops', -1), lets_within, PROGRAM, STEP, STEP, ('breach', begins[:2] + ((0,),)))
        self.raises(InvalidPaper, ('stops', -1), lets_within, PROGRAM, GO, GO, ('breach', begins[:2] + ((0,),)))
        self.gives(False, lets_within, PROGRAM, WATCH, GO, ('breach', PACKED))
        self.raises(InvalidPaper, ('stops', -1), lets_within, PROGRAM, GO, WATCH, ('breach', PACKED))

    def test_any_number_of_arrivals(self):
        long = ((('again', 0),), (), (1,) * 300)
        self.gives(False, lets_within, AGAIN, STEP, NEXT, ('breach', long))
        lives = [('twice', (0, 0, 0, 0))]
        for k in range(70):
            lives.append(('twice', (1, ('life', k), 0, 1, ('life', k), 0)))
        packed = ((('twice', 0),), tuple(lives), (1, ('life', 70), 0))
        self.gives(False, lets_within, TWICE, STEP, GO, ('breach', packed))
        self.gives(False, lets_within, TWICE, NEXT, GO, ('breach', packed))
        self.raises(InvalidPaper, ('stops', -1), lets_within, TWICE, OUT, GO, ('breach', packed))

    def test_a_fault_that_leaves_a_life(self):
        packed = ((('main', 0),), (('f', (0, 1)),), (0, ('life', 0)))
        self.gives(False, lets_within, PROGRAM, NEXT, GO, ('breach', packed))
        self.raises(InvalidPaper, ('stops', -1), lets_within, PROGRAM, NEXT, ((('', 'go', (('main', 2),), 0),),),
                    ('breach', packed))

    def test_any_run(self):
        met = {}
        programs = guided_programs() + (DEEP,) * 10
        for seed in range(1500):
            chance = Random(seed)
            program = programs[seed % len(programs)]
            guide, other = random_guide(chance, program), random_guide(chance, program)
            run = random_run(program, seed, chance.randint(1, 20))
            packed = packed_by_chance(program, run, chance)
            machine = machine_behind(program, run)
            number = len(machine.arrivals) - 1
            word = None
            if not machine.stack or machine.behind:
                word = 'arrival'
            elif number not in guide_stops_by_rules(program, guide, run):
                word = 'stops'
            elif number in guide_stops_by_rules(program, other, run):
                word = 'stops'
            met[word] = met.get(word, 0) + 1
            if word is None:
                self.gives(False, lets_within, program, guide, other, ('breach', packed))
                self.assertFalse(is_within(program, guide, other))
            else:
                self.raises(InvalidPaper, (word, -1), lets_within, program, guide, other, ('breach', packed))
        self.assertGreater(min(met.values()), 80)

    def test_two_faults_at_once(self):
        self.raises(InvalidPaper, ('frames', -1), lets_within, PROGRAM, GO, GO, ('breach', ((('f', 0),), (), (0,))))
        self.raises(InvalidPaper, ('arrival', -1), lets_within, PROGRAM, GO, GO, ('breach', ((('main', 0),), (), (0, 0))))
        self.raises(InvalidPaper, ('item', (-1, 1)), lets_within, PROGRAM, GO, GO, ('breach', ((('f', 0),), (), (0, 2))))

    def test_written(self):
        self.assertEqual(written(within_paper(PROGRAM, WATCH, GO)[1]), (0, 0, 1))


if __name__ == '__main__':
    unittest.main()
