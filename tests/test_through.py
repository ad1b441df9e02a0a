from outandover.errors import BrokenOff, InvalidEvent, SessionError
from outandover.sessions import Session
from outandover.through import told_through
from checks import Checks
from samples import AGAIN, PROGRAM, RUN, anything

W = (('g', 0),)


class ThroughTest(Checks):

    def broken(self, count, event, reason, session, commands):
        with self.assertRaises(BrokenOff) as caught:
            told_through(session, commands)
        self.same(count, caught.exception.count)
        cause = caught.exception.__cause__
        self.assertIs(cause.__class__, InvalidEvent)
        self.same((event, reason), (cause.event, cause.reason))
        self.same('closed', session.state)

    def test_all_told(self):
        for commands in ((), ('step',), ('step', 'step', 'out'), ('next', 'next')):
            session = Session(PROGRAM, wished=W)
            session.feed(RUN)
            self.same(len(commands), told_through(session, commands))
            self.same('closed', session.state)
            self.same(tuple([('tell', command) for command in commands]), session.log()[2:])
        session = Session(PROGRAM)
        self.same(1, told_through(session=session, commands=('next',)))
        self.same(((), None, (0, 0)), (session.planted(), session.here, session.counts()))

    def test_what_is_told_behind(self):
        session = Session(PROGRAM, wished=W)
        session.feed(RUN)
        told_through(session, ('step', 'next', 'next'))
        self.same((('main', 1), (3,), (4, 3)), (session.here, session.passed, session.counts()))

    def test_broken_off(self):
        session = Session(PROGRAM)
        self.broken(1, ('tell', 'step'), 'running', session, ('next', 'step', 'step'))
        self.same((('tell', 'next'),), session.log()[1:])
        session = Session(PROGRAM)
        session.feed(RUN)
        self.broken(2, ('tell', 'go'), 'over', session, ('step', 'go', 'go'))
        self.same((('tell', 'step'), ('tell', 'go')), session.log()[2:])
        session = Session(AGAIN)
        session.feed((1,) * 50)
        self.broken(39, ('tell', 'step'), 'full', session, ('step',) * 45)
        self.same((('again', 0),) * 40, session.frames)

    def test_any_values(self):
        for thing in anything():
            if isinstance(thing, str) and thing == 'step':
                continue
            for k in range(3):
                session = Session(PROGRAM)
                session.feed(RUN)
                self.broken(k, ('tell', thing), 'shape', session, ('step',) * k + (thing, 'step'))
                self.same(k + 2, len(session.log()))

    def test_closed_before(self):
        session = Session(PROGRAM)
        with session:
            pass
        self.same(0, told_through(session, ()))
        self.broken(0, ('tell', 'step'), 'closed', session, ('step', 'step'))

    def test_the_family(self):
        self.assertEqual(BrokenOff.__bases__, (SessionError,))
        self.same({'count': [1]}, vars(BrokenOff([1])))
