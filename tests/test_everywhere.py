import unittest
from random import Random

from outandover.comparing import are_alike, breach, is_within
from outandover.everywhere import are_alike_everywhere, breach_everywhere, free_programs, is_within_everywhere
from outandover.following import guide_stops
from outandover.packing import arrivals_in
from outandover.programchecker import lets_program
from checks import Checks
from oracle import Meeting, guide_stops_by_rules, written
from samples import AGAIN, BACK, F, G, GO, PROGRAM, STEP, WATCH, bolder, guided_programs, random_guide, random_run


def one(command, breaks=(), where=None):
    """A guide of one rule, or of one more that applies where."""
    rules = (('', command, breaks, 0),)
    return (rules,) if where is None else (((where, command, breaks, 0), ('', 'step', (), 0)),)


def cases(many, states=2, rules=3, breaks=2):
    """Two guides by chance that name at most three names, and a program with some of these names."""
    names = (('f', ((('',), (BACK,), ()),)), ('g', ((('',), (1,), ()), (('',), (BACK,), ()))))
    for seed in range(many):
        chance = Random(seed)
        guide, other = random_guide(chance, names, states, rules, breaks), random_guide(chance, names, states, rules, breaks)
        if chance.random() < 0.6:
            guide = bolder(chance, names, other)
        yield chance, guide, other


def free_by_rules(guide, other):
    """The free programs, taken from the words of the document."""
    names, greatest = set(), 0
    for state in guide + other:
        for where, _, breaks, _ in state:
            for spot in breaks + ((where,) if isinstance(where, tuple) else ()):
                names.add(spot[0])
                greatest = max(greatest, spot[1])
            if isinstance(where, str) and where != '':
                names.add(where)
    for letter in 'abcd':
        if letter not in names:
            names.add(letter)
            break
    calls = tuple(sorted({''} | names))
    ways = tuple(range(greatest + 2)) + (('back',),)
    lines = tuple([(calls, ways, ()) for _ in range(greatest + 2)])
    found = []
    for first in sorted(names):
        found.append(((first, lines),) + tuple([(name, lines) for name in sorted(names - {first})]))
    return tuple(found)


class FreeProgramsTest(Checks):

    def test_no_name(self):
        line = (('', 'a'), (0, 1, BACK), ())
        self.gives(((('a', (line, line)),),), free_programs, STEP, one('next'))
        self.gives(((('a', (line, line)),),), free_programs, guide=one('out'), other=one('go'))

    def test_a_name_alone(self):
        line = (('', 'a', 'f'), (0, 1, BACK), ())
        lines = (line, line)
        self.gives(((('a', lines), ('f', lines)), (('f', lines), ('a', lines))), free_programs, one('next', (), 'f'), STEP)

    def test_names_of_letters(self):
        for names, fresh in ((('a',), 'b'), (('b',), 'a'), (('a', 'b'), 'c'), (('a', 'c'), 'b'), (('a', 'b', 'c'), 'd'),
                             (('f', 'g', 'h'), 'a'), (('aa',), 'a')):
            guide = (tuple([(name, 'next', (), 0) for name in names]) + (('', 'go', (), 0),),)
            expected = tuple(sorted(names + (fresh,)))
            for found in (free_programs(guide, STEP), free_programs(STEP, guide)):
                self.same(expected, tuple([program[0][0] for program in found]))
                for program in found:
                    self.same(expected, tuple(sorted([name for name, _ in program])))
                    self.same(sorted([name for name, _ in program[1:]]), [name for name, _ in program[1:]])

    def test_indexes(self):
        for greatest in range(4):
            guides = (one('go', (('f', 0), ('f', greatest))) if greatest else one('go', (('f', 0),)),
                      one('next', (), ('f', greatest)))
            for guide in guides:
                for found in (free_programs(guide, STEP), free_programs(STEP, guide)):
                    for program in found:
                        for _, lines in program:
                            self.assertEqual(len(lines), greatest + 2)
                            for line in lines:
                                self.same(tuple(range(greatest + 2)) + (BACK,), line[1])

    def test_by_the_definition(self):
        for _, guide, other in cases(300):
            self.gives(free_by_rules(guide, other), free_programs, guide, other)
            for program in free_programs(guide, other):
                self.assertEqual(lets_program(program), len(program) * len(program[0][1]))

    def test_largest(self):
        breaks = (('a', 3), ('b', 3), ('c', 3))
        found = free_programs(one('go', breaks), one('next'))
        self.gives(4, len, found)
        self.gives(20, lets_program, found[3])
        self.same('d', found[3][0][0])
        self.same((('', 'a', 'b', 'c', 'd'), (0, 1, 2, 3, 4, BACK), ()), found[0][2][1][4])

    def test_of_both_guides(self):
        found = free_programs(one('go', (('f', 1),)), one('go', (('g', 2),)))
        self.same(('a', 'f', 'g'), tuple([program[0][0] for program in found]))
        self.same(4, len(found[0][0][1]))


class EverywhereTest(Checks):

    def test_ordinary(self):
        self.gives(True, is_within_everywhere, guide=GO, other=STEP)
        self.gives(False, is_within_everywhere, guide=STEP, other=GO)
        self.gives(True, is_within_everywhere, GO, WATCH)
        self.gives(False, is_within_everywhere, WATCH, GO)
        self.gives(True, are_alike_everywhere, guide=one('out'), other=one('go'))
        self.gives(False, are_alike_everywhere, GO, STEP)
        self.gives(False, are_alike_everywhere, STEP, GO)
        self.gives(None, breach_everywhere, guide=GO, other=STEP)
        # On this program, but not on all: there g does not call anything.
        self.gives(True, is_within, (G,), one('next'), GO)
        self.gives(False, is_within_everywhere, one('next'), GO)

    def test_on_each_free_program(self):
        met = {}
        for _, guide, other in cases(250):
            programs = free_by_rules(guide, other)
            found = [is_within(program, guide, other) for program in programs]
            turned = [is_within(program, other, guide) for program in programs]
            self.gives(all(found), is_within_everywhere, guide, other)
            self.gives(all(found + turned), are_alike_everywhere, guide, other)
            told = breach_everywhere(guide, other)
            key = 'all' if all(found) else found.index(False)
            met[key] = met.get(key, 0) + 1
            if all(found):
                self.assertIsNone(told)
                continue
            k, packed = told
            self.assertEqual((told.__class__, len(told), k), (tuple, 2, found.index(False)))
            program = programs[k]
            self.assertEqual(arrivals_in(program, packed), arrivals_in(program, breach(program, guide, other)))
            run = written(packed)
            many = arrivals_in(program, packed)
            self.assertEqual(guide_stops_by_rules(program, guide, run)[-1], many)
            self.assertNotIn(many, guide_stops_by_rules(program, other, run))
        self.assertGreater(min([met['all'], met[0]]), 40)
        self.assertGreater(len(met), 3)

    def test_the_fewest_arrivals(self):
        met = 0
        for _, guide, other in cases(120, 2, 2, 1):
            told = breach_everywhere(guide, other)
            if told is not None:
                program = free_by_rules(guide, other)[told[0]]
                meeting = Meeting(program, guide, other, 600)
                if meeting.many is not None:
                    met += 1
                    self.assertEqual(arrivals_in(program, told[1]), meeting.many)
        self.assertGreater(met, 20)

    def test_on_other_programs(self):
        # What is within on the free programs is within on all, also on those with handlers and faults.
        met = 0
        for chance, guide, other in cases(300):
            if not is_within_everywhere(guide, other):
                continue
            for seed in range(3):
                program = renamed_by_chance(chance, guided_programs()[chance.randrange(60)])
                met += guide != other
                self.gives(True, is_within, program, guide, other)
                run = random_run(program, seed, 25)
                self.assertTrue(set(guide_stops(program, guide, run)) <= set(guide_stops(program, other, run)))
        self.assertGreater(met, 100)

    def test_alike_on_other_programs(self):
        for chance, guide, other in cases(200, 1, 2, 1):
            if are_alike_everywhere(guide, other):
                self.gives(True, are_alike, renamed_by_chance(chance, guided_programs()[3]), guide, other)

    def test_the_least_index(self):
        # From a function that the guides do not name the named one can be called as well.
        guide, other = one('go', (('f', 0),)), one('go')
        self.assertEqual(breach_everywhere(guide, other)[0], 0)
        # What only the beginning tells: at first a guide is in state 0 in another function.
        guide = ((('f', 'next', (), 1), ('', 'go', (), 1)), (('', 'go', (), 1),))
        found = breach_everywhere(guide, one('go'))
        self.assertEqual(found[0], 1)
        self.assertEqual(free_programs(guide, one('go'))[1][0][0], 'f')
        guide = (((('f', 1), 'next', (), 0), ('f', 'next', (), 0), ('b', 'go', (), 0), ('', 'go', (), 0)),)
        self.assertEqual(breach_everywhere(guide, one('go'))[0], 2)

    def test_large_guides(self):
        chance = Random(11)
        names = (('f', F[1]), ('g', G[1] * 2), ('h', G[1] * 3))
        for _ in range(4):
            guide = random_guide(chance, names, 6, 4, 4)
            guide = tuple([tuple([(w if w != 'zz' and w[:1] != ('zz',) else 'f', c, tuple(
                [spot for spot in b if spot[0] != 'zz']), s) for w, c, b, s in state]) for state in guide])
            self.gives(True, are_alike_everywhere, guide, guide)
            self.gives(None, breach_everywhere, guide, guide)


def renamed_by_chance(chance, program):
    """The program with names that guides name."""
    from outandover.programchanges import renamed
    names = ['f', 'g', 'zz', 'other', 'a', 'more']
    chance.shuffle(names)
    table = list(zip([name for name, _ in program], names))
    return renamed(program, *table)


class SameTest(Checks):

    def test_on_a_program_that_lacks_what_is_named(self):
        guide = one('go', (('f', 3),))
        self.gives(True, are_alike, AGAIN, guide, one('go'))
        self.gives(True, are_alike, PROGRAM, guide, one('go'))
        self.gives(False, are_alike_everywhere, guide, one('go'))
        self.gives(False, is_within_everywhere, guide, one('go'))
        self.gives(True, is_within_everywhere, one('go'), guide)


if __name__ == '__main__':
    unittest.main()
