from random import Random

from outandover.errors import InvalidEvent
from outandover.replaying import replayed
from outandover.sessions import Session
from checks import Checks
from oracle import Told
from samples import PROGRAM, RUN
from test_sessions import PROGRAMS, all_told, event_by_chance

W = (('g', 0),)


class ReplayedTest(Checks):

    def test_leads_where_the_session_is(self):
        for seed in range(200):
            chance = Random(seed)
            program = PROGRAMS[seed % len(PROGRAMS)]
            session, events = Session(program, wished=W), []
            for _ in range(15):
                event = event_by_chance(chance, program, Told(program, W, events))
                if not Told(program, W, events).reason(event):
                    session.go(event)
                    events.append(event)
                if events and chance.random() < 0.2:
                    session.undo()
                    events.pop()
            other = replayed(session.log())
            self.assertIs(other.__class__, Session)
            self.same(all_told(session), all_told(other))
            # It can be led on, and taken back, on its own.
            if events:
                self.same(session.log()[-1], other.undo())
                self.same(len(events), len(session.log()) - 1)
                self.same(len(events) - 1, len(other.log()) - 1)

    def test_of_a_closed_session(self):
        session = Session(PROGRAM, wished=W)
        session.feed(RUN)
        with session:
            session.tell('step')
        other = replayed(log=session.log())
        self.same(('stopped', ('f', 0), session.log()), (other.state, other.here, other.log()))

    def test_wishes_that_changed(self):
        log = (('session', PROGRAM, W), ('wish', ()), ('feed', RUN), ('tell', 'next'), ('wish', (('f', 0),)))
        session = replayed(log)
        self.same(((), (('f', 0),), log), (session.passed, session.wished, session.log()))

    def test_the_first_error(self):
        begins = ('session', PROGRAM, W)
        for events, event, reason in (
            ((('feed', (7,)),), ('feed', (7,)), 'choice'),
            ((('tell', 'next'), ('tell', 'step'), ('tell', 'out')), ('tell', 'step'), 'running'),
            ((('feed', RUN), ('tell', 'go'), ('feed', ())), ('feed', ()), 'over'),
            ((('feed', ()),) * 41, ('feed', ()), 'full'),
        ):
            self.raises(InvalidEvent, (event, reason), replayed, (begins,) + events)
        self.same('stopped', replayed((begins,) + (('feed', ()),) * 40).state)
        self.same('stopped', replayed((begins,)).state)
