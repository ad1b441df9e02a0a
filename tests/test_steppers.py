import unittest

from outandover.errors import NotUsable
from outandover.programparts import spots_of
from outandover.safety import furthest
from outandover.stepping import passed_by, stops_of
from outandover.steppers import Counting, CountingFurthest, Fixed, Furthest, Stepper
from checks import Checks
from oracle import machine_behind
from samples import DEEP, PROGRAM, RUN, SAMPLES, anything, random_program, random_run

W = (('g', 0),)


def cases():
    programs = SAMPLES + (DEEP,) + tuple([random_program(seed) for seed in range(30)])
    for seed, program in enumerate(programs):
        spots = spots_of(program)
        yield program, (), random_run(program, seed, 20)
        yield program, spots[seed % len(spots):][:2] + (('zz', 0),), random_run(program, seed + 1, 20)


class DerivedTest(Checks):

    def test_the_classes_each_is_derived_from(self):
        self.assertEqual(Stepper.__bases__, (object,))
        for found in (Furthest, Fixed, Counting):
            self.assertEqual(found.__bases__, (Stepper,))
        self.assertEqual(set(CountingFurthest.__bases__), {Counting, Furthest})

    def test_each_class_has_its_own_methods(self):
        for found in (Stepper, Furthest, Fixed, Counting, CountingFurthest):
            self.assertIn('told', vars(found))
            self.assertIn('__call__', vars(found))

    def test_by_name(self):
        self.gives('step', Stepper().told, run=())
        self.gives('step', Stepper(), run=None)
        self.gives('step', Furthest(program=PROGRAM, wished=W).told, run=())
        self.gives('next', CountingFurthest(program=PROGRAM, wished=W), run=(0,))


class StepperTest(Checks):

    def test_any_value(self):
        stepper = Stepper()
        for thing in anything():
            self.gives('step', stepper.told, thing)
            self.gives('step', stepper, thing)
        self.assertEqual(stops_of(PROGRAM, RUN, stepper), (0, 1, 2, 3, 4))


class FurthestTest(Checks):

    def test_the_command_at_the_last_arrival(self):
        for program, wished, run in cases():
            stepper = Furthest(program, wished)
            for many in range(len(run) + 1):
                # The last arrival, also where something is chosen behind it or the run is over.
                spot = machine_behind(program, run[:many]).arrivals[-1][1]
                self.gives(furthest(program, wished, spot), stepper.told, run[:many])
                self.gives(furthest(program, wished, spot), stepper, run[:many])

    def test_ordinary(self):
        stepper = Furthest(PROGRAM, W)
        self.assertEqual([stepper(RUN[:many]) for many in (0, 1, 3, 4, 8, 10)],
                         ['step', 'next', 'step', 'out', 'next', 'next'])
        self.assertEqual(stops_of(PROGRAM, RUN, stepper), (0, 1, 2, 3, 4))
        self.assertEqual(passed_by(PROGRAM, W, RUN, stepper), ())
        self.assertEqual(stops_of(PROGRAM, RUN, Furthest(PROGRAM, ())), (0,))

    def test_wrong_choices(self):
        for stepper in (Furthest(PROGRAM, W), CountingFurthest(PROGRAM, W)):
            for thing in anything():
                if repr(thing) != '0':
                    self.raises(NotUsable, ('choice', 0), stepper.told, (thing,))
                    self.raises(NotUsable, ('choice', 2), stepper, (0, 0, thing) if thing != 1 else (0, 0, 2))
            self.raises(NotUsable, ('choice', 10), stepper, RUN + (0,))

    def test_objects_side_by_side(self):
        one, two, three = Furthest(PROGRAM, W), Furthest(PROGRAM, ()), Furthest((PROGRAM[2],), W)
        self.assertEqual([stepper(()) for stepper in (one, two, three, one)], ['step', 'out', 'out', 'step'])


class FixedTest(Checks):

    def test_of_the_document(self):
        self.assertEqual(stops_of(PROGRAM, RUN, Fixed('step', 'out')), (0, 1, 4))
        self.assertEqual(passed_by(PROGRAM, W, RUN, Fixed('next')), (3,))

    def test_in_turn(self):
        stepper = Fixed('step', 'out', 'next')
        found = [stepper.told(()), stepper(()), stepper.told(None), stepper(7), stepper.told(()), stepper([])]
        self.same(['step', 'out', 'next', 'step', 'out', 'next'], found)

    def test_none_and_one(self):
        none, one = Fixed(), Fixed('out')
        for thing in anything():
            self.same(['step', 'step'], [none(thing), none.told(thing)])
            self.same(['out', 'out'], [one(thing), one.told(thing)])

    def test_any_words(self):
        stepper = Fixed('', 'go', 'a b')
        self.same(['', 'go', 'a b', ''], [stepper(()) for _ in range(4)])
        self.raises(NotUsable, ('command', 1), lambda: stops_of(PROGRAM, RUN, Fixed('step', 'go')))

    def test_objects_side_by_side(self):
        one, two = Fixed('step', 'out'), Fixed('step', 'out')
        self.same(['step', 'out'], [one(()), one(())])
        self.same(['step', 'step', 'out', 'out'], [two(()), one(()), two(()), one(())])

    def test_it_goes_on_from_one_run_to_the_next(self):
        stepper = Fixed('step', 'step', 'next')
        self.assertEqual(stops_of(PROGRAM, RUN, stepper), (0, 1, 2, 4))
        self.same(['step', 'next', 'step'], [stepper(()) for _ in range(3)])


class CountingTest(Checks):

    def test_asked(self):
        stepper = Counting()
        self.same(0, stepper.asked)
        self.assertIn('asked', vars(stepper))
        for many, thing in enumerate(anything()):
            self.same(['step', 'step'], [stepper.told(thing), stepper(thing)])
            self.same(2 * many + 2, stepper.asked)

    def test_of_the_document(self):
        stepper = CountingFurthest(PROGRAM, W)
        self.same(0, stepper.asked)
        self.assertIn('asked', vars(stepper))
        self.assertEqual(stops_of(PROGRAM, RUN, stepper), (0, 1, 2, 3, 4))
        self.same(5, stepper.asked)

    def test_calls_that_raised_an_error(self):
        stepper = CountingFurthest(PROGRAM, W)
        self.raises(NotUsable, ('choice', 0), stepper, (1,))
        self.same(1, stepper.asked)
        self.raises(NotUsable, ('choice', 1), stepper.told, (0, None))
        self.same(2, stepper.asked)
        self.same(['step', 3], [stepper(()), stepper.asked])

    def test_as_furthest(self):
        for program, wished, run in cases():
            plain, counting = Furthest(program, wished), CountingFurthest(program, wished)
            for many in range(len(run) + 1):
                self.assertEqual(plain(run[:many]), counting(run[:many]))
                self.assertEqual(plain.told(run[:many]), counting.told(run[:many]))
                self.assertEqual(counting.asked, 2 * many + 2)

    def test_objects_side_by_side(self):
        one, two, three = Counting(), Counting(), CountingFurthest(PROGRAM, W)
        one(())
        one.told(())
        three(())
        self.same([2, 0, 1], [one.asked, two.asked, three.asked])


if __name__ == '__main__':
    unittest.main()
