import unittest
from random import Random

from outandover.breakpoints import Breaks
from outandover.choosing import frames_after
from outandover.errors import InvalidEvent, InvalidPaper, NothingToUndo, NotUsable
from outandover.plans import least_plan
from outandover.safety import furthest
from outandover.sessions import Session
from checks import Checks
from oracle import Halts, Told, machine_behind
from samples import (
    AGAIN, DEEP, F, FAULTS, G, MAIN, PROGRAM, RUN, SAMPLES, STUCK, TWICE, anything, random_program, random_run,
)

W = (('g', 0),)
PROGRAMS = SAMPLES + (DEEP,) + tuple([random_program(seed) for seed in range(40)])


def spots_of_program(program):
    return [(name, index) for name, lines in program for index in range(len(lines))]


def event_by_chance(chance, program, told):
    """An event, mostly one that is possible."""
    kind = chance.randrange(10)
    spots = spots_of_program(program) + [('zz', 0)]
    if kind < 4:
        choices = []
        machine = machine_behind(program, told.fed)
        for _ in range(chance.randint(0, 7)):
            if machine.options():
                choices.append(chance.randrange(machine.options()))
                machine.choose(choices[-1])
        return ('feed', tuple(choices) + ((9,) if chance.random() < 0.05 else ()))
    if kind < 7:
        return ('tell', chance.choice(['step', 'next', 'out', 'go']))
    if kind == 7:
        return ('break', chance.choice(spots), chance.random() < 0.7)
    if kind == 8:
        return ('clear', chance.choice(spots))
    return ('wish', tuple(sorted(chance.sample(spots, chance.randint(0, 2)))))


def all_told(session):
    """All that is told of a session."""
    return (session.state, session.here, session.frames, session.wished, session.passed, session.planted(),
            session.advice(), session.counts(), session.log())


class SessionChecks(Checks):

    def check(self, session, program, wished, events):
        """Compares all that the session tells with a plain reading of its events."""
        told = Told(program, wished, events)
        self.same(told.state(), session.state)
        self.same(told.here(), session.here)
        self.same(told.frames(), session.frames)
        self.same(told.wished, session.wished)
        self.same(tuple(told.passed), session.passed)
        self.same((told.arrived, told.halted), session.counts())
        self.same((('session', program, wished),) + tuple(events), session.log())
        self.same(furthest(program, told.wished, told.here()) if told.here() else None, session.advice())
        self.same(self.plants(program, told, events), session.planted())
        return told

    def plants(self, program, told, events):
        """The plants of the command under way, () if there is none."""
        if told.state() != 'running':
            return ()
        at = max([k for k, event in enumerate(events) if event[0] == 'tell'])
        before = Told(program, (), events[:at])
        on = tuple(sorted([spot for spot in before.on if before.on[spot]]))
        if events[at][1] == 'go':
            return tuple([(spot, -1) for spot in on])
        return least_plan(program, before.frames(), events[at][1], breaks=on)


class BeginningTest(SessionChecks):

    def test_of_the_document(self):
        session = Session(PROGRAM, wished=W)
        self.same(['stopped', 'step', 'running', (3,), ((('main', 1), -1), (('main', 2), -1))],
                  [session.feed(RUN[:4]), session.advice(), session.tell('next'), session.passed, session.planted()])
        self.same(['stopped', ('main', 1), (4, 1), 'over', ()],
                  [session.feed(RUN[4:]), session.here, session.counts(), session('out'), session.frames])

    def test_at_first(self):
        for program in PROGRAMS:
            for wished in ((), W, (('zz', 0),)):
                session = Session(program, wished=wished)
                self.check(session, program, wished, ())
                self.same('stopped', session.state)
                self.same((0, 0), session.counts())
        self.same((), Session(program=PROGRAM).wished)
        self.same(40, Session.MOST)
        self.same(40, Session(PROGRAM).MOST)
        with self.assertRaises(TypeError):
            Session(PROGRAM, W)

    def test_errors_of_lets_program(self):
        for thing in anything():
            if repr(thing) != repr(PROGRAM):
                self.raises(InvalidPaper, ('shape', -1), Session, thing)
                self.raises(InvalidPaper, ('shape', -1), Session, thing, wished=None)
        self.raises(InvalidPaper, ('calls', ('main', 2)), Session, (MAIN, F), wished=[])
        self.raises(InvalidPaper, ('name', 1), Session, (F, F))
        self.raises(InvalidPaper, ('ways', ('g', 0)), Session, (('g', ((('',), (1,), ()),)),))

    def test_wished(self):
        for thing in anything() + [(('g', 0), ('f', 0)), (('g', 0), ('g', 0)), [('g', 0)], ('g', 0), (('g', True),)]:
            if repr(thing) not in ('()', "(('f', 0),)"):
                self.raises(NotUsable, ('wished', -1), Session, PROGRAM, wished=thing)

    def test_properties_are_only_told(self):
        session = Session(PROGRAM)
        for name in ('state', 'here', 'frames', 'passed'):
            with self.assertRaises(AttributeError):
                setattr(session, name, None)


class LeadTest(SessionChecks):

    def test_choice_by_choice(self):
        met = {}
        for seed in range(700):
            chance = Random(seed)
            program = PROGRAMS[seed % len(PROGRAMS)]
            wished = tuple(sorted(chance.sample(spots_of_program(program), 1)))
            session, events = Session(program, wished=wished), []
            for _ in range(25):
                told = Told(program, wished, events)
                if events and chance.random() < 0.1:
                    self.same(events.pop(), session.undo())
                    self.check(session, program, wished, events)
                    continue
                event = event_by_chance(chance, program, told)
                reason = told.reason(event)
                met[(event[0], reason)] = met.get((event[0], reason), 0) + 1
                if reason:
                    before = all_told(session)
                    self.raises_event(event, reason, session.go, event)
                    self.same(before, all_told(session))
                    continue
                events.append(event)
                self.same(Told(program, wished, events).state(), session.go(event))
                self.check(session, program, wished, events)
        self.assertEqual(sorted(met), sorted([
            ('feed', ''), ('feed', 'choice'), ('feed', 'over'), ('tell', ''), ('tell', 'running'), ('tell', 'over'),
            ('break', ''), ('break', 'running'), ('clear', ''), ('clear', 'running'), ('wish', ''), ('wish', 'running'),
        ]))

    def raises_event(self, event, reason, function, *args):
        with self.assertRaises(InvalidEvent) as caught:
            function(*args)
        self.same((event, reason), (caught.exception.event, caught.exception.reason))

    def test_the_same_choices_in_other_parts(self):
        for seed in range(300):
            chance = Random(seed)
            program = PROGRAMS[seed % len(PROGRAMS)]
            run = random_run(program, seed, 14)
            wished = tuple(chance.sample(spots_of_program(program), 1))
            others = [('break', chance.choice(spots_of_program(program)), True)]
            others += [('tell', chance.choice(['step', 'next', 'out', 'go'])) for _ in range(6)]
            found = []
            for sizes in ([len(run)], [1] * len(run), [2, 5, 1, 9]):
                session, left = Session(program, wished=wished), run
                # All choices are fed ahead of the commands, so that each command finds the same ones.
                for size in sizes:
                    session.feed(left[:size])
                    left = left[size:]
                session.feed(left)
                told = []
                for event in others:
                    if session.state == 'stopped':
                        session.go(event)
                        told.append((session.here, session.passed, session.counts()))
                found.append(told)
            self.same(found[0], found[1])
            self.same(found[0], found[2])

    def test_parts_under_way(self):
        # The same choices and commands in the same order, however the choices are parted and when they come.
        met = 0
        for seed in range(400):
            chance = Random(seed)
            program = PROGRAMS[seed % len(PROGRAMS)]
            run = random_run(program, seed, 20)
            wished = tuple(chance.sample(spots_of_program(program), 1))
            commands = [chance.choice(['step', 'next', 'out']) for _ in range(8)]
            first = Session(program, wished=wished)
            first.feed(run)
            told = []
            for command in commands:
                if first.state == 'stopped':
                    first.tell(command)
                    told.append(command)
            other, left = Session(program, wished=wished), list(run)
            for command in told:
                other.tell(command)
                while left and other.state == 'running':
                    size = chance.randint(1, 4)
                    if len(other.log()) > 35 - len(told):
                        size = len(left)
                    other.feed(tuple(left[:size]))
                    left = left[size:]
            if left:
                other.feed(tuple(left))
            met += first.state == 'over'
            self.same((first.here, first.passed, first.counts(), first.state, first.planted()),
                      (other.here, other.passed, other.counts(), other.state, other.planted()))
        self.assertGreater(met, 50)

    def test_led_by_the_advice(self):
        arrived = 0
        for seed in range(250):
            chance = Random(seed)
            program = PROGRAMS[seed % len(PROGRAMS)]
            wished = tuple(sorted(chance.sample(spots_of_program(program), chance.choice([1, 1, 2]) % (
                len(spots_of_program(program)) + 1))))
            session = Session(program, wished=wished)
            session.feed(random_run(program, seed, 40))
            while session.state == 'stopped' and len(session.log()) <= 39:
                session.tell(session.advice())
                self.same((), session.passed)
            arrived += session.counts()[0]
        self.assertGreater(arrived, 500)

    def test_advice_behind_something_passed(self):
        session = Session(PROGRAM, wished=W)
        session.feed(RUN)
        session.tell('next')
        self.same((3,), session.passed)
        while session.state == 'stopped':
            session.tell(session.advice())
        self.same((3,), session.passed)

    def test_where_the_plants_are_and_where_the_commands_halt(self):
        for seed in range(150):
            chance = Random(seed)
            program = PROGRAMS[seed % len(PROGRAMS)]
            session = Session(program)
            session.feed(random_run(program, seed, 10))
            session.tell('step')
            if session.state != 'stopped':
                continue
            frames, command = session.frames, chance.choice(['step', 'next', 'out'])
            waiting = session.tried(('tell', command))
            session.tell(command)
            self.same(((session.state, session.here),), waiting)
            if session.state == 'running':
                halts = Halts(program, frames, command, ())
                if halts.is_all:
                    self.same(tuple(sorted({spot for spot, _ in halts.halts})),
                              tuple(sorted({spot for spot, _ in session.planted()})))

    def test_three_hundred_choices(self):
        session = Session(AGAIN, wished=(('again', 1),))
        session.feed((1,) * 150)
        session.feed((0, 0, 0, 0) + (0, 0) * 70)
        self.same(294, sum([len(event[1]) for event in session.log()[1:]]))
        session.tell('next')
        self.same('running', session.state)
        self.check(session, AGAIN, (('again', 1),), session.log()[1:])
        session.undo()
        session.set_break(('again', 1), True)
        session.tell('go')
        self.same(151, len(session.frames))
        self.check(session, AGAIN, (('again', 1),), session.log()[1:])
        session.tell('out')
        self.check(session, AGAIN, (('again', 1),), session.log()[1:])

    def test_frames_that_are_more_than_six(self):
        session = Session(TWICE)
        session.feed((1,) * 20)
        for _ in range(12):
            session.tell('step')
        self.same((('twice', 0),) * 13, session.frames)
        session.tell('out')
        self.same('running', session.state)
        self.same(least_plan(TWICE, (('twice', 0),) * 13, 'out'), session.planted())
        self.assertEqual(max([look for _, look in session.planted()]), 11)

    def test_a_fault_that_leaves_several_frames(self):
        # top 0 calls mid, mid 0 calls mid and that low, which fails with a kind that top handles.
        session = Session(FAULTS)
        session.feed((0, 1, 0, 0))
        for command, here in (('step', ('mid', 0)), ('step', ('mid', 0)), ('step', ('low', 0))):
            self.same('stopped', session.tell(command))
            self.same(here, session.here)
        self.same(4, len(session.frames))
        session.tell('out')
        self.same('running', session.state)
        session.feed((3,))
        self.same(('stopped', ('top', 1), (('top', 1),)), (session.state, session.here, session.frames))
        self.check(session, FAULTS, (), session.log()[1:])
        session.undo()
        session.feed((1,))
        # The handler of every kind stands in front of that of blue.
        self.same(('stopped', ('top', 2)), (session.state, session.here))
        self.check(session, FAULTS, (), session.log()[1:])


class BreakTest(SessionChecks):

    def test_on_and_off(self):
        session = Session(PROGRAM)
        session.set_break(('g', 0), False)
        session.feed(RUN)
        session.tell('next')
        self.same(('main', 1), session.here)
        session.undo()
        session.set_break(('g', 0), True)
        session.tell('next')
        self.same(('g', 0), session.here)
        session.undo()
        session.set_break(spot=('g', 0), on=False)
        session.tell('next')
        self.same(('main', 1), session.here)
        self.check(session, PROGRAM, (), session.log()[1:])

    def test_kept_twice_and_cleared(self):
        session = Session(PROGRAM)
        session.set_break(('f', 1), True)
        session.set_break(('f', 1), True)
        session.set_break(('g', 0), True)
        session.clear_break(('f', 1))
        session.clear_break(spot=('main', 2))
        session.clear_break(('zz', 0))
        session.feed(RUN)
        self.same('stopped', session('go'))
        self.same(('g', 0), session.here)
        self.check(session, PROGRAM, (), session.log()[1:])

    def test_breakpoints_that_the_program_does_not_have(self):
        session = Session(PROGRAM)
        for spot in (('zz', 0), ('f', 2), ('g', 0)):
            session.set_break(spot, True)
        session.set_break(('a', 0), False)
        session.tell('go')
        self.same(((('f', 2), -1), (('g', 0), -1), (('zz', 0), -1)), session.planted())
        session.undo()
        session.tell('out')
        self.same(((('g', 0), -1),), session.planted())

    def test_go(self):
        session = Session(PROGRAM)
        session.tell('go')
        self.same(('running', ()), (session.state, session.planted()))
        session.feed(RUN)
        self.same(('over', (), (4, 0), None, ()),
                  (session.state, session.planted(), session.counts(), session.here, session.frames))

    def test_a_breakpoint_at_the_session_itself(self):
        session = Session(PROGRAM)
        session.set_break(('main', 0), True)
        session.feed(RUN)
        self.same('over', session.tell('go'))
        again = Session(PROGRAM)
        again.set_break(('main', 0), True)
        again.feed(RUN[:-1] + (1,))
        self.same(('stopped', ('main', 0)), (again.tell('go'), again.here))

    def test_objects_that_are_changed_afterwards(self):
        breaks = Breaks(('g', 0))
        session, other = Session(PROGRAM), Session(PROGRAM)
        for spot in breaks:
            session.set_break(spot, breaks[spot])
        breaks[('g', 0)] = False
        session.feed(RUN)
        other.feed(RUN)
        session.tell('go')
        other.tell('go')
        self.same((('g', 0), None), (session.here, other.here))
        log = session.log()
        session.undo()
        self.same(4, len(log))
        self.same(3, len(session.log()))


class WishTest(SessionChecks):

    def test_in_each_way(self):
        session = Session(PROGRAM)
        self.same(W, session.set_wished(W))
        session.wished = (('f', 1),)
        self.same((('f', 1),), session.wished)
        self.same('stopped', session.go(('wish', ())))
        self.same((), session.wished)
        self.same((('f', 0),), session.set_wished(spots=(('f', 0),)))
        self.same((('wish', W), ('wish', (('f', 1),)), ('wish', ()), ('wish', (('f', 0),))), session.log()[1:])

    def test_wishes_that_change(self):
        session = Session(PROGRAM, wished=W)
        session.feed(RUN)
        session.tell('step')
        session.wished = (('f', 1), ('main', 1))
        session.tell('out')
        # The arrival at g 0, wished before, is not passed; that at f 1 is, and main 1 is halted at.
        self.same(((2,), (4, 2)), (session.passed, session.counts()))
        session.wished = ()
        self.same((2,), session.passed)
        session.tell('next')
        self.same(((2,), 'over'), (session.passed, session.state))
        session.wished = W
        self.same(W, session.wished)
        self.check(session, PROGRAM, W, session.log()[1:])

    def test_passed_with_go(self):
        session = Session(AGAIN, wished=(('again', 0), ('again', 1)))
        session.set_break(('again', 1), True)
        session.feed((1, 1, 0, 0, 0))
        session.tell('go')
        self.same(((1, 2), (3, 1)), (session.passed, session.counts()))
        self.check(session, AGAIN, (('again', 0), ('again', 1)), session.log()[1:])


class FeedTest(SessionChecks):

    def test_empty(self):
        session = Session(PROGRAM)
        self.same('stopped', session.feed(()))
        session.tell('next')
        self.same('running', session.feed(()))
        self.same('running', session.feed(choices=()))
        session.feed(RUN)
        self.same(('feed', ()), session.log()[1])
        session.tell('out')
        self.same('over', session.state)
        self.check(session, PROGRAM, (), session.log()[1:])

    def test_choices_that_wait(self):
        session = Session(PROGRAM)
        session.tell('step')
        self.same('stopped', session.feed(RUN))
        self.same((('f', 0), (1, 1)), (session.here, session.counts()))
        for here in (('f', 1), ('g', 0), ('main', 1)):
            session.tell('step')
            self.same(here, session.here)
        self.same('over', session.tell('step'))

    def test_the_end_of_the_run(self):
        session = Session((G,))
        session.feed((0, 0))
        self.same('stopped', session.state)
        # All choices are fed, but nothing is read.
        self.same((('g', 0), (('g', 0),), 'out'), (session.here, session.frames, session.advice()))
        self.same('over', session.tell('step'))
        self.same((None, (), None, ()), (session.here, session.frames, session.advice(), session.planted()))

    def test_a_run_that_ends_under_a_command(self):
        session = Session((G,))
        session.tell('out')
        self.same(('running', ()), (session.state, session.planted()))
        self.same('running', session.feed((0,)))
        self.same('over', session.feed((0,)))
        self.same((0, 0), session.counts())

    def test_stuck(self):
        session = Session(STUCK)
        session.feed((1, 0, 0, 0, 0, 0))
        session.tell('step')
        session.tell('out')
        self.same(('running', ()), (session.state, session.planted()))
        self.same('running', session.feed((0, 0) * 50))
        self.check(session, STUCK, (), session.log()[1:])


class ReasonTest(SessionChecks):

    def wrong(self, event, reason, session):
        """Each way to apply the event raises this, and changes nothing."""
        before = all_told(session)
        ways = [lambda: session.go(event), lambda: session.tried(event), lambda: session.do_all(event),
                lambda: session.do_all(event, keep=True)]
        if isinstance(event, tuple) and len(event) == 2:
            own = {'feed': session.feed, 'tell': session.tell, 'clear': session.clear_break, 'wish': session.set_wished}
            if event[0] in own:
                ways.append(lambda: own[event[0]](event[1]))
            if event[0] == 'tell':
                ways.append(lambda: session(event[1]))
            if event[0] == 'wish':
                ways.append(lambda: setattr(session, 'wished', event[1]))
        if isinstance(event, tuple) and len(event) == 3 and event[0] == 'break':
            ways.append(lambda: session.set_break(event[1], event[2]))
        for way in ways:
            with self.assertRaises(InvalidEvent) as caught:
                way()
            self.same((event, reason), (caught.exception.event, caught.exception.reason))
            self.same(before, all_told(session))

    def test_shape(self):
        session = Session(PROGRAM, wished=W)
        for thing in anything():
            self.wrong(thing, 'shape', session)
            self.wrong(('clear', thing, None), 'shape', session)
            if not (isinstance(thing, str) and thing in ('step', 'next', 'out', 'go')):
                self.wrong(('tell', thing), 'shape', session)
            if repr(thing) not in ("('f', 0)", "('life', 0)"):
                self.wrong(('clear', thing), 'shape', session)
                self.wrong(('break', thing, True), 'shape', session)
            if thing is not True and thing is not False:
                self.wrong(('break', ('f', 0), thing), 'shape', session)
            if repr(thing) not in ('()', "(('f', 0),)"):
                self.wrong(('wish', thing), 'shape', session)
        for event in (('wish', W * 2), ('feed', (0, True)), ('feed', [0]), ('feed', (-1,)), ('undo',), ['tell', 'step']):
            self.wrong(event, 'shape', session)

    def test_the_very_objects(self):
        session, choices = Session(PROGRAM), [0, 0]
        with self.assertRaises(InvalidEvent) as caught:
            session.feed(choices)
        self.assertIs(caught.exception.event[1], choices)

    def test_choice(self):
        session = Session(PROGRAM)
        for choices in ((1,), (0, 1), (0, 0, 2), (10 ** 59,), RUN + (0,)):
            self.wrong(('feed', choices), 'choice', session)
        session.feed(RUN)
        # The run that is fed is at its end, although nothing of it is read.
        self.wrong(('feed', (0,)), 'choice', session)
        self.same('stopped', session.feed(()))
        session.tell('next')
        self.wrong(('feed', (0,)), 'choice', session)

    def test_one_choice_of_several(self):
        for k in range(len(RUN)):
            session = Session(PROGRAM)
            self.wrong(('feed', RUN[:k] + (7,) + RUN[k + 1:]), 'choice', session)
            self.same('stopped', session.feed(RUN))

    def test_running(self):
        session = Session(PROGRAM, wished=W)
        session.tell('next')
        for event in (('tell', 'step'), ('tell', 'go'), ('break', ('f', 0), True), ('break', ('f', 0), False),
                      ('clear', ('f', 0)), ('wish', ()), ('wish', W)):
            self.wrong(event, 'running', session)
        self.wrong(('feed', (1,)), 'choice', session)
        self.same('running', session.feed((0,)))

    def test_over(self):
        session = Session(PROGRAM, wished=W)
        session.feed(RUN)
        session.tell('go')
        for event in (('tell', 'step'), ('tell', 'go'), ('feed', ()), ('feed', (0,)), ('feed', (99,))):
            self.wrong(event, 'over', session)
        self.same('over', session.set_break(('f', 0), True))
        self.same('over', session.clear_break(('f', 0)))
        self.same((), session.set_wished(()))

    def test_closed(self):
        for events in ((), (('tell', 'next'),), (('feed', RUN), ('tell', 'go'))):
            session = Session(PROGRAM, wished=W)
            session.do_all(*events)
            with session:
                pass
            for event in (('feed', ()), ('feed', (99,)), ('tell', 'step'), ('break', ('f', 0), True), ('clear', ('f', 0)),
                          ('wish', ())):
                self.wrong(event, 'closed', session)
            self.wrong(('tell', 'Step'), 'shape', session)

    def test_full(self):
        session = Session(AGAIN, wished=W)
        for k in range(40):
            self.same('stopped', session.feed((1,) if k < 5 else ()))
        for event in (('feed', ()), ('feed', (99,)), ('tell', 'step'), ('break', ('f', 0), True), ('clear', ('f', 0)),
                      ('wish', ())):
            self.wrong(event, 'full', session)
        self.wrong(('feed', None), 'shape', session)
        self.same(('feed', ()), session.undo())
        self.same('stopped', session.tell('step'))
        self.wrong(('tell', 'step'), 'full', session)
        self.same(('tell', 'step'), session.undo())
        session.undo()
        self.same((('stopped', ('again', 0)),) * 2, session.tried(('tell', 'step'), ('feed', ())))
        self.raises_of_three(session)
        with session:
            session.feed(())
            session.feed(())
        self.wrong(('tell', 'step'), 'full', session)

    def raises_of_three(self, session):
        for way in (session.tried, session.do_all):
            with self.assertRaises(InvalidEvent) as caught:
                way(('tell', 'step'), ('feed', ()), ('tell', 'out'))
            self.same((('tell', 'out'), 'full'), (caught.exception.event, caught.exception.reason))

    def test_events_of_a_trial_count(self):
        session = Session(AGAIN)
        events = [('feed', ())] * 40
        self.same(40, len(session.tried(*events)))
        with self.assertRaises(InvalidEvent) as caught:
            session.tried(*events, ('clear', ('f', 0)))
        self.same((('clear', ('f', 0)), 'full'), (caught.exception.event, caught.exception.reason))
        self.same(1, len(session.log()))

    def test_two_reasons_at_once(self):
        session = Session(PROGRAM)
        session.do_all(('feed', RUN), ('tell', 'go'), *[('clear', ('f', 0))] * 38)
        self.wrong(('tell', 'step'), 'full', session)
        self.wrong(('feed', (99,)), 'full', session)
        self.wrong(('tell', 7), 'shape', session)
        with session:
            pass
        self.wrong(('tell', 'step'), 'full', session)
        session = Session(PROGRAM)
        with session:
            session.do_all(('feed', RUN), ('tell', 'go'))
        self.wrong(('tell', 'step'), 'closed', session)
        self.wrong(('feed', (99,)), 'closed', session)


class TrialTest(SessionChecks):

    def test_none(self):
        session = Session(PROGRAM)
        self.same((), session.tried())
        self.same(0, session.do_all())
        with session:
            pass
        self.same((), session.tried())
        self.same(0, session.do_all(keep=True))

    def test_several(self):
        session = Session(PROGRAM, wished=W)
        before = all_told(session)
        found = session.tried(('tell', 'next'), ('feed', RUN[:2]), ('feed', RUN[2:]), ('wish', ()), ('tell', 'out'))
        self.same((('running', None), ('running', None), ('stopped', ('main', 1)), ('stopped', ('main', 1)), ('over', None)),
                  found)
        self.same(before, all_told(session))

    def test_as_when_they_are_applied(self):
        for seed in range(200):
            chance = Random(seed)
            program = PROGRAMS[seed % len(PROGRAMS)]
            session, events = Session(program), []
            while len(events) < 6:
                event = event_by_chance(chance, program, Told(program, (), events))
                if not Told(program, (), events).reason(event):
                    events.append(event)
            half = chance.randint(0, 5)
            self.same(half, session.do_all(*events[:half]))
            before = all_told(session)
            found = session.tried(*events[half:])
            self.same(before, all_told(session))
            behind = [Told(program, (), events[:k + 1]) for k in range(half, 6)]
            self.same(tuple([(told.state(), told.here()) for told in behind]), found)

    def test_one_that_is_not_possible(self):
        session = Session(PROGRAM)
        before = all_told(session)
        with self.assertRaises(InvalidEvent) as caught:
            session.tried(('tell', 'step'), ('tell', 'step'), None)
        self.same((('tell', 'step'), 'running'), (caught.exception.event, caught.exception.reason))
        self.same(before, all_told(session))

    def test_do_all(self):
        events = (('feed', RUN), ('tell', 'step'), ('wish', W), ('tell', 'out'))
        for keep in (True, False):
            session = Session(PROGRAM)
            self.same(4, session.do_all(*events, keep=keep))
            self.check(session, PROGRAM, (), events)

    def test_do_all_that_fails(self):
        events = (('feed', RUN), ('tell', 'step'), ('tell', 'next'), ('tell', 'step'))
        for k in range(len(events) + 1):
            for wrong, reason in ((('feed', (7,)), 'choice'), (None, 'shape')):
                for keep in (False, True):
                    session = Session(PROGRAM)
                    session.wished = W
                    with self.assertRaises(InvalidEvent) as caught:
                        session.do_all(*events[:k], wrong, *events[k:], keep=keep)
                    self.same((wrong, reason), (caught.exception.event, caught.exception.reason))
                    left = (('wish', W),) + (events[:k] if keep else ())
                    self.check(session, PROGRAM, (), left)
        session = Session(PROGRAM)
        self.assertRaises(InvalidEvent, session.do_all, None)
        self.same(1, len(session.log()))


class UndoTest(SessionChecks):

    def test_nothing_to_undo(self):
        session = Session(PROGRAM, wished=W)
        self.raises_undo(session)
        session.tell('step')
        session.undo()
        self.raises_undo(session)
        self.check(session, PROGRAM, W, ())

    def raises_undo(self, session):
        with self.assertRaises(NothingToUndo) as caught:
            session.undo()
        self.same(0, caught.exception.steps)

    def test_each_event(self):
        for seed in range(150):
            chance = Random(seed)
            program = PROGRAMS[seed % len(PROGRAMS)]
            session, events, before = Session(program, wished=W), [], []
            while len(events) < 15:
                event = event_by_chance(chance, program, Told(program, W, events))
                if not Told(program, W, events).reason(event):
                    before.append(all_told(session))
                    session.go(event)
                    events.append(event)
            while events:
                self.same(events.pop(), session.undo())
                self.same(before.pop(), all_told(session))
            self.raises_undo(session)

    def test_told_again(self):
        session = Session(PROGRAM, wished=W)
        session.feed(RUN[:3])
        session.tell('out')
        self.same(('out', 'running'), (session.log()[-1][1], session.state))
        session.undo()
        self.same(((), 'stopped', (0, 0)), (session.planted(), session.state, session.counts()))
        session.tell('step')
        self.same((('f', 0), ()), (session.here, session.planted()))
        session.undo()
        session.undo()
        session.feed((0, 0, 1))
        session.tell('next')
        self.same(('main', 2), session.here)
        self.check(session, PROGRAM, W, (('feed', (0, 0, 1)), ('tell', 'next')))

    def test_undo_over(self):
        session = Session(PROGRAM)
        session.do_all(('feed', RUN), ('tell', 'go'))
        self.same('over', session.state)
        session.undo()
        self.same(('stopped', ('main', 0)), (session.state, session.here))
        session.undo()
        self.same('running', session.tell('go'))


class CloseTest(SessionChecks):

    def test_entering_changes_nothing(self):
        session = Session(PROGRAM, wished=W)
        with session as held:
            self.assertIs(held, session)
            self.check(session, PROGRAM, W, ())
            session.tell('step')
        self.same('closed', session.state)

    def test_all_else_is_told_as_before(self):
        cases = ((), (('feed', RUN), ('tell', 'step')), (('feed', RUN), ('tell', 'go')), (('feed', (0, 0)), ('tell', 'next')),
                 (('break', ('g', 0), True), ('tell', 'go')))
        for events in cases:
            session = Session(PROGRAM, wished=W)
            session.do_all(*events)
            before = all_told(session)
            with session:
                pass
            state, here, frames, wished, passed, planted, advice, counts, log = all_told(session)
            self.same(('closed', (), None), (state, planted, advice))
            self.same(before[1:5] + before[7:], (here, frames, wished, passed, counts, log))

    def test_undo(self):
        for events in ((), (('feed', RUN),), (('tell', 'next'),)):
            session = Session(PROGRAM)
            session.do_all(*events)
            with session:
                pass
            with self.assertRaises(InvalidEvent) as caught:
                session.undo()
            self.same((('undo',), 'closed'), (caught.exception.event, caught.exception.reason))
            self.same(len(events) + 1, len(session.log()))

    def test_closed_by_an_error(self):
        session = Session(PROGRAM)
        with self.assertRaises(InvalidEvent):
            with session:
                session.tell('go')
                session.tell('go')
        self.same(('closed', None, ()), (session.state, session.here, session.planted()))
        session = Session(PROGRAM)
        with self.assertRaises(KeyError):
            with session:
                raise KeyError('mine')
        self.same(('closed', ('main', 0)), (session.state, session.here))

    def test_closed_twice(self):
        session = Session(PROGRAM)
        with session:
            with session:
                session.tell('step')
            self.same('closed', session.state)
        with session:
            pass
        self.same('closed', session.state)

    def test_side_by_side(self):
        one, two = Session(PROGRAM, wished=W), Session(PROGRAM)
        one.feed(RUN)
        one.set_break(('g', 0), True)
        with one:
            one.tell('go')
        self.check(two, PROGRAM, (), ())
        two.feed(RUN)
        self.same('over', two.tell('go'))
        self.same((('g', 0), 'closed'), (one.here, one.state))

    def test_frames_as_frames_after(self):
        run = (0, 0, 0, 1)
        session = Session(PROGRAM)
        session.feed(run)
        for count in (1, 3, 4):
            session.tell('step')
            self.same(frames_after(PROGRAM, run[:count]), session.frames)


if __name__ == '__main__':
    unittest.main()
