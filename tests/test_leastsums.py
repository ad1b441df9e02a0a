import unittest

from outandover.leastsums import greatest_sums, least_sums
from checks import Checks

A, B, C, D = ('a',), ('b',), ('c',), ('d',)


class LeastTest(Checks):

    def test_bodies_and_order(self):
        rules = [(A, 1, (B, 7, B)), (A, 9, ()), (B, 2, (3,)), (B, 1, (C,)), (C, 6, ())]
        self.gives({B: (2, (3,)), A: (5, (B, 7, B)), C: (6, ())}, least_sums, rules)

    def test_rings(self):
        self.gives({}, least_sums, [(A, 1, (B,)), (B, 0, (A,)), (C, 0, (A,))])
        self.gives({C: (1, ()), A: (2, (C,)), B: (2, (A,))}, least_sums,
                   [(A, 1, (B,)), (B, 0, (A,)), (A, 1, (C,)), (C, 1, ()), (D, 0, (D, A))])

    def test_none(self):
        self.gives({}, least_sums, [])


class GreatestTest(Checks):

    def test_greatest(self):
        rules = [(A, 1, (B, B)), (A, 9, ()), (B, 2, ()), (B, 4, (C, 0)), (C, 5, ()), (A, 100, (D,))]
        self.gives({C: (5, ()), B: (9, (C, 0)), A: (19, (B, B))}, greatest_sums, rules)

    def test_rings_have_none(self):
        rules = [(A, 1, (B,)), (B, 1, (A,)), (B, 1, ()), (C, 1, (B,)), (D, 7, ()), (C, 1, (D,))]
        self.gives({D: (7, ())}, greatest_sums, rules)

    def test_rings_that_cannot_come_do_not_count(self):
        self.gives({C: (1, ())}, greatest_sums, [(A, 1, (B,)), (B, 1, (A,)), (C, 1, ()), (C, 1, (A,))])


if __name__ == '__main__':
    unittest.main()
