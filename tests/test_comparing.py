import unittest
from random import Random

from outandover.comparing import are_alike, breach, is_within
from outandover.following import guide_stops
from outandover.packedchecker import lets_packed
from outandover.packing import arrivals_in, frames_behind, written_out
from outandover.reaching import distance
from outandover.stepping import passed_by
from checks import Checks
from oracle import Meeting, Stops, all_runs, guide_stops_by_rules, written
from samples import (
    AGAIN, BACK, DEEP, F, FAULTS, G, GO, PROGRAM, RING, SAMPLES, STEP, STUCK, TWICE, WATCH, bolder, chain,
    guided_programs, random_guide, random_program, random_tree,
)


def one(command, breaks=()):
    """A guide of one rule."""
    return ((('', command, breaks, 0),),)


def cases(many, states=3, rules=3, breaks=2):
    """Programs and two guides by chance, often such that one is within the other."""
    programs = guided_programs()
    for seed in range(many):
        chance = Random(seed)
        program = programs[seed % len(programs)]
        guide = random_guide(chance, program, states, rules, breaks)
        other = random_guide(chance, program, states, rules, breaks)
        if chance.random() < 0.5:
            other = bolder(chance, program, guide)
        yield (program, guide, other) if chance.random() < 0.5 else (program, other, guide)


class WithinTest(Checks):

    def test_of_the_document(self):
        self.gives(True, is_within, PROGRAM, GO, WATCH)
        self.gives(False, are_alike, PROGRAM, GO, WATCH)

    def test_against_all_runs_of_each_length(self):
        met = {True: 0, False: 0}
        for program, guide, other in cases(120, 2, 3, 2):
            within = True
            for count in range(8):
                for run in all_runs(program, count):
                    stops = guide_stops_by_rules(program, guide, run)
                    others = guide_stops_by_rules(program, other, run)
                    within = within and set(stops) <= set(others)
                if not within or len(all_runs(program, count)) > 60:
                    break
            if not within:
                self.gives(False, is_within, program, guide, other)
            elif is_within(program, guide, other):
                met[True] += 1
                continue
            else:
                packed = breach(program, guide, other)
                self.assertGreaterEqual(len(written(packed)), count)
            met[False] += 1
        self.assertGreater(min(met.values()), 30)

    def test_by_name(self):
        self.gives(True, is_within, program=PROGRAM, guide=GO, other=STEP)
        self.gives(False, is_within, program=PROGRAM, guide=STEP, other=GO)
        self.gives(True, are_alike, program=AGAIN, guide=one('out'), other=one('go'))
        self.gives(None, breach, program=PROGRAM, guide=GO, other=STEP)

    def test_each_command(self):
        words = ('go', 'out', 'next', 'step')
        for program in SAMPLES + (DEEP,):
            for k, word in enumerate(words):
                for other in words[k:]:
                    self.gives(True, is_within, program, one(word), one(other))
                # In the lowest frame "out" lands nowhere.
                self.gives(True, is_within, program, one('out'), one('go'))
        self.gives(False, is_within, PROGRAM, one('next'), one('out'))
        self.gives(False, is_within, PROGRAM, STEP, one('next'))
        self.gives(True, is_within, (G,), STEP, one('go'))

    def test_a_guide_is_within_itself(self):
        for program, guide, other in cases(200, 6, 4, 8):
            self.gives(True, is_within, program, guide, guide)
            self.gives(True, are_alike, program, other, other)
            self.gives(None, breach, program, guide, guide)

    def test_within_goes_on(self):
        met = 0
        for program, guide, other in cases(600, 2, 2, 2):
            third = bolder(Random(7), program, other)
            if is_within(program, guide, other) and is_within(program, other, third):
                met += guide != other and other != third
                self.gives(True, is_within, program, guide, third)
        self.assertGreater(met, 20)

    def test_alike(self):
        met = {True: 0, False: 0}
        for program, guide, other in cases(600, 2, 2, 2):
            both = is_within(program, guide, other) and is_within(program, other, guide)
            self.gives(both, are_alike, program, guide, other)
            self.gives(both, are_alike, program, other, guide)
            met[both] += 1
        self.assertGreater(min(met.values()), 60)

    def test_names_and_spots_that_the_program_does_not_have(self):
        guide = ((('zz', 'go', (), 0), (('f', 7), 'go', (), 0), ('', 'next', (('f', 9), ('zz', 0)), 0)),)
        self.gives(True, are_alike, PROGRAM, guide, one('next'))
        self.gives(False, are_alike, PROGRAM + (('zz', G[1]),), (guide[0][2:],), one('step'))

    def test_states_that_are_never_reached(self):
        guide = ((('', 'next', (), 0),), (('', 'step', (('f', 0),), 1),))
        self.gives(True, are_alike, PROGRAM, guide, one('next'))
        six = tuple([(('', 'next', (), (k + 1) % 6),) for k in range(6)])
        self.gives(True, are_alike, PROGRAM, six, one('next'))
        five = six[:4] + ((('', 'step', (), 0),), six[5])
        self.gives(False, are_alike, PROGRAM, five, six)
        self.gives(True, are_alike, (G,), five, six)


class BreachTest(Checks):

    def check(self, program, guide, other, packed, many):
        self.assertEqual(packed[0], ((program[0][0], 0),))
        self.assertEqual(arrivals_in(program, packed), many)
        run = written(packed)
        stops, others = guide_stops_by_rules(program, guide, run), guide_stops_by_rules(program, other, run)
        self.assertEqual(stops[-1], many)
        self.assertNotIn(many, others)
        # It stands at the arrival: the last item makes it.
        self.assertNotEqual(frames_behind(program, packed), ())
        self.assertEqual(arrivals_in(program, packed[:2] + (packed[2][:-1],)) < many, True)

    def test_fewest_arrivals(self):
        met = {}
        for program, guide, other in cases(600):
            meeting = Meeting(program, guide, other)
            found = breach(program, guide, other)
            self.gives(found is None, is_within, program, guide, other)
            if meeting.many is not None:
                self.check(program, guide, other, found, meeting.many)
            elif meeting.is_all:
                self.assertIsNone(found)
            elif found is not None:
                # Nothing was found so far: there can only be a breach further away.
                self.assertGreaterEqual(lets_packed(program, found), meeting.arrivals)
                self.check(program, guide, other, found, lets_packed(program, found))
            key = meeting.many if meeting.many is not None or meeting.is_all else 'open'
            met[key] = met.get(key, 0) + 1
        self.assertGreater(min([met[1], met[2], met[3], met[None]]), 8)
        self.assertGreater(max([many for many in met if isinstance(many, int)]), 6)

    def test_larger_guides(self):
        for program, guide, other in cases(400, 6, 4, 4):
            meeting = Meeting(program, guide, other)
            found = breach(program, guide, other)
            if meeting.many is not None:
                self.check(program, guide, other, found, meeting.many)
            else:
                self.assertEqual(found is None, is_within(program, guide, other))

    def test_ordinary(self):
        found = breach(PROGRAM, WATCH, GO)
        self.check(PROGRAM, WATCH, GO, found, 2)
        self.assertEqual(written_out(PROGRAM, found), (0, 0, 1))
        self.check(PROGRAM, STEP, GO, breach(PROGRAM, guide=STEP, other=GO), 1)
        self.check(TWICE, one('next'), one('out'), breach(TWICE, one('next'), one('out')), 1)

    def test_behind_calls_that_have_to_be_long(self):
        # The other guide stops wherever this one does, but for the sixth line, behind calls of 16 arrivals each.
        program = chain(['d', 'e', 'h'], 4)
        program = (('main', tuple([(('d',), (k + 1,), ()) for k in range(6)] + [(('',), (BACK,), ())])),) + program
        guide = ((('', 'next', (), 0),),)
        other = (((('main', 5), 'go', (), 0), ('', 'next', (), 0)),)
        found = breach(program, guide, other)
        self.assertGreater(arrivals_in(program, found), 100)
        self.assertNotIn(arrivals_in(program, found), guide_stops(program, other, written(found)))
        self.assertEqual(guide_stops(program, guide, written(found))[-1], arrivals_in(program, found))

    def test_runs_that_nobody_can_write_out(self):
        # Each function calls the next one twice and then fails or ends; the breach is behind the first call.
        names = ['a', 'b', 'c', 'd', 'e', 'h', 'k']
        functions = []
        for name, following in zip(names, names[1:] + ['']):
            lines = tuple([((following,), (index + 1,), ()) for index in range(4)]) + (((following,), (BACK,), ()),)
            functions.append((name, lines))
        program = (('main', ((('a',), (1,), ()), (('',), (BACK,), ()))),) + tuple(functions)
        found = breach(program, one('next'), one('go'))
        self.assertEqual(arrivals_in(program, found), 5 + 5 ** 2 + 5 ** 3 + 5 ** 4 + 5 ** 5 + 5 ** 6 + 5 ** 7 + 1)
        self.assertEqual(frames_behind(program, found), (('main', 1),))
        other = ((('k', 'next', (), 0), ('', 'go', (('k', 4),), 0)),)
        within = ((('', 'go', (('k', 4),), 0),),)
        self.gives(True, is_within, program, within, other)
        self.gives(False, is_within, program, other, within)

    def test_breaches_of_each_kind(self):
        # At the beginning of a called frame, at a way, behind a fault, at the end of a frame.
        self.check(PROGRAM, one('go', (('f', 0),)), GO, breach(PROGRAM, one('go', (('f', 0),)), GO), 1)
        self.check(PROGRAM, one('go', (('f', 1),)), GO, breach(PROGRAM, one('go', (('f', 1),)), GO), 2)
        self.check(PROGRAM, one('go', (('main', 2),)), GO, breach(PROGRAM, one('go', (('main', 2),)), GO), 2)
        self.check(PROGRAM, one('go', (('main', 1),)), GO, breach(PROGRAM, one('go', (('main', 1),)), GO), 3)
        inner = ((('main', 'step', (), 0), ('', 'out', (), 0)),)
        self.check(PROGRAM, inner, one('go', (('f', 0), ('main', 2))),
                   breach(PROGRAM, inner, one('go', (('f', 0), ('main', 2)))), 3)

    def test_the_nearest_of_several_spots(self):
        # A guide that halts at these spots alone first halts at the nearest of them.
        met = {}
        programs = guided_programs() + tuple([random_tree(seed) for seed in range(60)])
        for seed, program in enumerate(programs):
            chance = Random(seed)
            spots = sorted([(name, index) for name, lines in program for index in range(len(lines))])
            spots.remove((program[0][0], 0))
            cases = [(spot,) for spot in spots]
            if len(spots) > 1:
                cases.append(tuple(sorted(chance.sample(spots, 2))))
            for breaks in cases:
                distances = [distance(program, spot) for spot in breaks]
                least = min([many for many in distances if many is not None], default=None)
                found = breach(program, one('go', breaks), one('go'))
                self.assertEqual(None if found is None else lets_packed(program, found), least)
                met[least] = met.get(least, 0) + 1
        self.assertGreater(max([many for many in met if many is not None]), 7)

    def test_by_calls_or_by_lines(self):
        # From line 0 to the last line by so many calls with so many arrivals, or by a fault and so many lines.
        for many in (1, 3):
            for inside in range(1, 5):
                for others in range(1, 16):
                    last = many + others
                    calling = [(('f',), (k + 1 if k + 1 < many else last,), (('x', many),)) for k in range(many)]
                    own = [(('',), (k + 1,), ()) for k in range(many, last)]
                    program = (('main', tuple(calling + own) + ((('',), (BACK,), ()),)),
                               ('f', in_a_row(inside, (('fail', 'x'),))))
                    guide = one('go', (('main', last),))
                    found = breach(program, guide, one('go'))
                    self.check(program, guide, one('go'), found, min(many * (inside + 1), others + 2))

    def test_by_a_call_or_by_frames(self):
        # To line 1 by a call with so many arrivals, or to the last of so many frames.
        for inside in range(1, 6):
            for many in range(1, 8):
                names = 'abcdefgh'[:many]
                deep = [(name, (((following,), (BACK,), ()),)) for name, following in zip(names, names[1:])]
                deep.append((names[-1], ((('',), (BACK,), ()),)))
                main = ((('a', 'zz'), (1,), ()), (('',), (BACK,), ()))
                program = (('main', main), ('zz', in_a_row(inside, ()))) + tuple(deep)
                guide = one('go', tuple(sorted([('main', 1), (names[-1], 0)])))
                self.check(program, guide, one('go'), breach(program, guide, one('go')), min(inside + 1, many))

    def test_rings_and_frames_that_never_end(self):
        for program in (RING, STUCK, FAULTS):
            for guide in (one('next'), one('out'), STEP, one('go', ((program[-1][0], 0),))):
                for other in (one('next'), one('out'), STEP, GO):
                    meeting = Meeting(program, guide, other, most=1000)
                    found = breach(program, guide, other)
                    if meeting.many is None:
                        self.assertTrue(found is None or lets_packed(program, found) >= meeting.arrivals)
                    else:
                        self.check(program, guide, other, found, meeting.many)


class ConsequencesTest(Checks):

    def test_go_with_wished_spots(self):
        # Within a guide if and only if this one passes no arrival at a wished spot.
        met = {True: 0, False: 0}
        for seed in range(300):
            chance = Random(seed)
            program = guided_programs()[seed % 60]
            spots = [(name, index) for name, lines in program for index in range(len(lines))]
            wished = tuple(sorted(chance.sample(spots, chance.randint(1, min(2, len(spots))))))
            guide = random_guide(chance, program, 3, 3, 2)
            within = is_within(program, one('go', wished), guide)
            met[within] += 1
            passed = False
            for count in range(7):
                for run in all_runs(program, count)[:80]:
                    passed = passed or passes(program, wished, run, guide)
            if within:
                self.assertFalse(passed)
            else:
                run = written(breach(program, one('go', wished), guide))
                self.assertTrue(passes(program, wished, run, guide))
        self.assertGreater(min(met.values()), 30)

    def test_guides_that_pass_nothing_have_the_stops_of_the_furthest_stepper(self):
        from outandover.steppers import Furthest
        from outandover.stepping import stops_of
        from samples import random_run
        met = 0
        for seed in range(400):
            chance = Random(seed)
            program = guided_programs()[seed % 60]
            spots = [(name, index) for name, lines in program for index in range(len(lines))]
            wished = tuple(sorted(chance.sample(spots, 1)))
            guide = random_guide(chance, program, 3, 3, 0)
            guide = tuple([tuple([(w, 'step' if c == 'go' else c, b, s) for w, c, b, s in state]) for state in guide])
            if not is_within(program, one('go', wished), guide):
                continue
            met += 1
            for part in range(6):
                run = random_run(program, seed * 7 + part, 30)
                stops = guide_stops(program, guide, run)
                least = stops_of(program, run, Furthest(program, wished))
                self.assertTrue(set(least) <= set(stops))
                self.assertEqual(passed_by(program, wished, run, Furthest(program, wished)), ())
        self.assertGreater(met, 100)

    def test_the_stops_of_guides_within(self):
        # On a run the one never has more stops than the other, of any program.
        for program, guide, other in cases(300, 2, 3, 2):
            if not is_within(program, guide, other):
                continue
            for count in range(6):
                for run in all_runs(program, count)[:60]:
                    self.assertTrue(set(guide_stops(program, guide, run)) <= set(guide_stops(program, other, run)))

    def test_renamed(self):
        from outandover.programchanges import renamed
        for program, guide, other in cases(200):
            table = {name: 'new' + name[:4] + 'abcdefgh'[k] for k, (name, _) in enumerate(program)}
            changed = renamed(program, *table.items())
            found = is_within(program, guide, other)
            self.gives(found, is_within, changed, renamed_guide(guide, table), renamed_guide(other, table))
            if not found:
                packed = breach(changed, renamed_guide(guide, table), renamed_guide(other, table))
                self.assertEqual(lets_packed(changed, packed), lets_packed(program, breach(program, guide, other)))

    def test_a_spot_that_a_stepper_counts(self):
        # The stops of a guide of one state without breakpoints are those of the stepper with its commands.
        for program in (PROGRAM, (F, G), DEEP):
            guide = ((('f', 'next', (), 0), ('', 'step', (), 0)),)
            told = Stops(program, ((program[0][0], 0),), lambda spot: 'next' if spot[0] == 'f' else 'step', 3)
            most = max([len(guide_stops(program, guide, run)) for count in range(5) for run in all_runs(program, count)])
            self.assertLessEqual(most, 5)
            self.assertGreater(told.numbers[()][1], 1)

    def test_random_programs_change_nothing_handed_in(self):
        program = random_program(3)
        guide = random_guide(Random(3), program)
        self.gives(is_within(program, guide, GO), is_within, program, guide, GO)
        self.gives(breach(program, guide, STEP), breach, program, guide, STEP)


def in_a_row(many, ways):
    """So many lines that lead to one another and back; the first one has these ways besides."""
    lines = [(('',), (k + 1 if k + 1 < many else BACK,), ()) for k in range(many)]
    calls, own, handlers = lines[0]
    return ((calls, own + ways, handlers),) + tuple(lines[1:])


def passes(program, wished, run, guide):
    """Whether a guide passes an arrival at a wished spot on this run."""
    from oracle import machine_behind
    stops = guide_stops(program, guide, run)
    arrivals = machine_behind(program, run).arrivals
    return any([spot in wished and k not in stops for k, (_, spot) in enumerate(arrivals)])


def renamed_guide(guide, table):
    """The guide with the new names; its breakpoints are ascending again."""
    def spot_in(spot):
        return (table.get(spot[0], spot[0]), spot[1])

    states = []
    for state in guide:
        rules = []
        for where, command, breaks, following in state:
            where = spot_in(where) if isinstance(where, tuple) else table.get(where, where)
            rules.append((where, command, tuple(sorted([spot_in(spot) for spot in breaks])), following))
        states.append(tuple(rules))
    return tuple(states)


if __name__ == '__main__':
    unittest.main()
