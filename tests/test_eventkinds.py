import unittest

from outandover.eventkinds import is_event, is_log
from checks import Checks
from samples import AGAIN, F, MAIN, PROGRAM, anything, nested

W = (('g', 0),)
EVENTS = (
    ('feed', ()), ('feed', (0, 1, 2, 10 ** 59)), ('tell', 'step'), ('tell', 'next'), ('tell', 'out'), ('tell', 'go'),
    ('break', ('f', 0), True), ('break', ('zz', 10 ** 59), False), ('clear', ('f', 9)), ('wish', ()), ('wish', W),
    ('wish', (('f', 2), ('f', 10), ('g', 0))),
)


class EventTest(Checks):

    def test_each_form(self):
        for event in EVENTS:
            self.gives(True, is_event, event)
            self.gives(True, is_event, thing=event)

    def test_any_value(self):
        for thing in anything() + [EVENTS, list(EVENTS[0]), [EVENTS[0]], (EVENTS[0],), nested(28, EVENTS[2]), 'feed', ('feed',),
                                   ('session', PROGRAM, W), ('undo',), ('try', EVENTS[0])]:
            self.gives(False, is_event, thing)

    def test_one_thing_otherwise(self):
        for event in EVENTS:
            for word in ('Feed', 'feed ', '', 'session', 'undo', 'feeds', 'breaks', 0, None, True, ('feed',), ['feed'], 'tells'):
                self.gives(False, is_event, (word,) + event[1:])
            for thing in anything():
                self.gives(False, is_event, event + (thing,) if event[0] != 'clear' or thing not in (0, 1) else ())
                if len(event) == 3:
                    self.gives(thing is True or thing is False, is_event, event[:2] + (thing,))
            self.gives(False, is_event, event[:-1])
            self.gives(False, is_event, list(event))

    def test_what_is_told(self):
        for thing in anything():
            form = repr(thing)
            numbers = isinstance(thing, tuple) and all([form_is_number(part) for part in thing])
            self.gives(numbers, is_event, ('feed', thing))
            self.gives(form == "'step'", is_event, ('tell', thing))
            is_spot = form in ("('f', 0)", "('life', 0)")
            self.gives(is_spot, is_event, ('clear', thing))
            self.gives(is_spot, is_event, ('break', thing, True))
            self.gives(form in ('()', "(('f', 0),)"), is_event, ('wish', thing))
        for spots in ((('g', 0), ('f', 0)), (('f', 0), ('f', 0)), (('f', 10), ('f', 9)), [('f', 0)], (('f', 0), None)):
            self.gives(False, is_event, ('wish', spots))
        for choices in ((-1,), (0, True), [0], (0, '1'), (None,)):
            self.gives(False, is_event, ('feed', choices))
        for on in (1, 0, None, 'on', 'True', (), (True,)):
            self.gives(False, is_event, ('break', ('f', 0), on))
        for event in (('tell', 'next', 'next'), ('break', ('f', 0)), ('clear', ('f', 0), True), ('wish', ('f', 0)),
                      ('feed', 0), ('feed', 0, 1), ('wish',), ('tell', 'Step'), ('tell', ('step',))):
            self.gives(False, is_event, event)


def form_is_number(thing):
    return isinstance(thing, int) and not isinstance(thing, bool) and thing >= 0


class LogTest(Checks):

    def test_ordinary(self):
        for program in (PROGRAM, AGAIN):
            for wished in ((), W, (('zz', 3),)):
                self.gives(True, is_log, (('session', program, wished),))
                self.gives(True, is_log, thing=(('session', program, wished),) + EVENTS)
        # Also events that are not possible, and more than forty.
        self.gives(True, is_log, (('session', AGAIN, ()),) + (('feed', (7,)), ('tell', 'go')) * 40)

    def test_any_value(self):
        begins = ('session', PROGRAM, W)
        self.gives(False, is_log, begins)
        for thing in anything() + [[begins], (begins,) * 2, EVENTS, (PROGRAM, W), (list(begins),)]:
            self.gives(False, is_log, thing)
            self.gives(False, is_log, (thing,))
            self.gives(False, is_log, (begins, thing))
            self.gives(False, is_log, (begins, EVENTS[0], thing) + EVENTS)

    def test_the_beginning(self):
        for thing in anything():
            if repr(thing) not in ('()', "(('f', 0),)"):
                self.gives(False, is_log, (('session', PROGRAM, thing),))
            if repr(thing) != repr(PROGRAM):
                self.gives(False, is_log, (('session', thing, W),))
            self.gives(False, is_log, ((thing, PROGRAM, W),))
            self.gives(False, is_log, (('session', PROGRAM, W, thing),))
        for program in ((MAIN, F), (F, F), (MAIN, F, ('g', ((('',), (9,), ()),))), list(PROGRAM), MAIN):
            self.gives(False, is_log, (('session', program, W),))
        for wished in ((('g', 0), ('f', 0)), W * 2, [('g', 0)], ('g', 0)):
            self.gives(False, is_log, (('session', PROGRAM, wished),))
        self.gives(False, is_log, (('Session', PROGRAM, W),))
        self.gives(False, is_log, (('session', PROGRAM),))
        self.gives(False, is_log, EVENTS[:1] + (('session', PROGRAM, W),))


if __name__ == '__main__':
    unittest.main()
