import unittest
from random import Random

from outandover.comparing import are_alike
from outandover.guidechecker import lets_guide
from outandover.guides import Guide
from outandover.paring import needless, pared
from checks import Checks
from samples import AGAIN, BACK, F, G, GO, PROGRAM, STEP, TWICE, WATCH, guided_programs, random_guide


def one(command, breaks=()):
    """A guide of one rule."""
    return ((('', command, breaks, 0),),)


def without(guide, triple):
    """The guide without one breakpoint."""
    s, r, spot = triple
    states = [list(state) for state in guide]
    where, command, breaks, following = states[s][r]
    states[s][r] = (where, command, tuple([other for other in breaks if other != spot]), following)
    return tuple([tuple(state) for state in states])


def all_triples(guide):
    return [(s, r, spot) for s, state in enumerate(guide) for r, rule in enumerate(state) for spot in rule[2]]


class NeedlessTest(Checks):

    def test_each_breakpoint_alone(self):
        met = {True: 0, False: 0}
        programs = guided_programs()
        for seed in range(400):
            chance = Random(seed)
            program = programs[seed % len(programs)]
            guide = random_guide(chance, program, 3, 3, 3)
            found = needless(program, guide)
            self.gives(found, needless, program, guide)
            self.assertEqual(found, tuple(sorted(set(found))))
            for triple in all_triples(guide):
                alike = are_alike(program, without(guide, triple), guide)
                self.assertEqual(alike, triple in found, (seed, triple))
                met[alike] += 1
        self.assertGreater(min(met.values()), 120)

    def test_larger_guides(self):
        for seed in range(40):
            chance = Random(seed)
            program = guided_programs()[seed]
            guide = random_guide(chance, program, 6, 4, 8)
            found = needless(program, guide)
            for triple in all_triples(guide):
                self.assertEqual(are_alike(program, guide, without(guide, triple)), triple in found)

    def test_ordinary(self):
        self.gives((), needless, program=PROGRAM, guide=GO)
        # In main g is called, in f alone the guide steps into it.
        self.gives((), needless, PROGRAM, WATCH)
        self.gives(((0, 1, ('g', 0)),), needless, (F, G), ((('f', 'step', (), 0), ('', 'next', (('g', 0),), 0)),))
        self.gives((), needless, PROGRAM, STEP)
        self.gives(GO, pared, program=PROGRAM, guide=GO)

    def test_a_spot_that_the_program_does_not_have(self):
        guide = one('go', (('f', 2), ('g', 0), ('zz', 0)))
        self.gives(((0, 0, ('f', 2)), (0, 0, ('zz', 0))), needless, PROGRAM, guide)
        self.gives(GO, pared, PROGRAM, guide)

    def test_step_needs_none(self):
        guide = one('step', (('f', 0), ('g', 0), ('main', 1)))
        self.gives(tuple([(0, 0, spot) for spot in guide[0][0][2]]), needless, PROGRAM, guide)
        self.gives(STEP, pared, PROGRAM, guide)

    def test_where_the_command_lands_anyway(self):
        self.gives(((0, 0, ('main', 1)), (0, 0, ('main', 2))), needless, PROGRAM,
                   one('next', (('main', 1), ('main', 2))))
        # In another frame of the same function it does not land there.
        self.gives((), needless, AGAIN, one('next', (('again', 1),)))
        self.gives((), needless, PROGRAM, one('out', (('main', 1),)))

    def test_rules_that_never_apply(self):
        guide = ((('', 'go', (), 0), ('', 'go', (('g', 0),), 0)), (('', 'go', (('g', 0),), 1),))
        self.gives(((0, 1, ('g', 0)), (1, 0, ('g', 0))), needless, PROGRAM, guide)
        self.gives(((('', 'go', (), 0), ('', 'go', (), 0)), (('', 'go', (), 1),)), pared, PROGRAM, guide)

    def test_two_each_needless_alone(self):
        guide = ((('', 'next', (('main', 1), ('zz', 3)), 0),),)
        self.gives(((0, 0, ('main', 1)), (0, 0, ('zz', 3))), needless, PROGRAM, guide)
        self.gives(one('next'), pared, PROGRAM, guide)
        # The same spot in two rules, of which both land there.
        guide = ((('main', 'next', (('main', 1),), 0), ('', 'out', (('main', 2),), 0)),)
        self.gives(((0, 0, ('main', 1)), (0, 1, ('main', 2))), needless, PROGRAM, guide)

    def test_at_the_beginning_of_a_frame_and_behind_a_fault(self):
        self.gives((), needless, TWICE, one('next', (('twice', 0),)))
        self.gives((), needless, PROGRAM, one('go', (('main', 2),)))
        self.gives(((0, 0, ('main', 0)),), needless, PROGRAM, one('next', (('main', 0),)))


class ParedTest(Checks):

    def test_alike_and_none_needless(self):
        programs = guided_programs()
        met = 0
        for seed in range(600):
            chance = Random(seed)
            program = programs[seed % len(programs)]
            guide = random_guide(chance, program, 4, 4, 4)
            found = pared(program, guide)
            self.gives(found, pared, program, guide)
            self.assertEqual(lets_guide(found), lets_guide(guide))
            self.gives(True, are_alike, program, guide, found)
            self.gives((), needless, program, found)
            met += found != guide
            by_one = guide
            for triple in needless(program, guide):
                by_one = without(by_one, triple)
            self.same(by_one, found)
        self.assertGreater(met, 200)

    def test_by_objects(self):
        guide = Guide(one('next', (('main', 1), ('zz', 3))))
        for s, r, spot in needless(PROGRAM, guide.states):
            guide = guide.without(s, r, spot)
        self.same(guide.states, pared(PROGRAM, one('next', (('main', 1), ('zz', 3)))))

    def test_nothing_is_reached(self):
        program = (('a', ((('',), (BACK,), ()),)),)
        guide = one('go', (('a', 0), ('a', 1)))
        self.gives(((0, 0, ('a', 0)), (0, 0, ('a', 1))), needless, program, guide)
        self.gives(one('go'), pared, program, guide)


if __name__ == '__main__':
    unittest.main()
