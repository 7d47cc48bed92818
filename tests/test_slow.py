"""The answers beside those of a slow search through all possible links and all possible sets."""

import unittest
from itertools import combinations, permutations
from random import Random

from tests.helper import apart, orders, serves, slow_apart, slow_chains, slow_orders, slow_serves, told


def all_searches(columns):
    return [list(known) for size in range(columns + 1) for known in combinations(range(columns), size)]


class SlowTest(unittest.TestCase):
    def check(self, columns, searches):
        numbers = range(len(searches))
        given = told(columns, searches, orders(), apart(), *[serves(which) for which in numbers])
        chains = slow_chains(searches)
        wanted = [slow_orders(columns, searches, chains), slow_apart(searches)]
        wanted += [slow_serves(searches, chains, which) for which in numbers]
        self.assertEqual(given, wanted, (columns, searches))
        self.assertEqual(given[0][0], given[1][0])

    def check_all(self, columns, most):
        for size in range(most + 1):
            for searches in permutations(all_searches(columns), size):
                self.check(columns, list(searches))

    def test_all_of_one_column(self):
        self.check_all(1, 2)

    def test_all_of_two_columns(self):
        self.check_all(2, 4)

    def test_all_of_three_columns_with_up_to_four_searches(self):
        self.check_all(3, 4)

    def check_some(self, columns, size, times):
        drawn = Random(columns * 100 + size)
        for time in range(times):
            self.check(columns, drawn.sample(all_searches(columns), size))

    def test_some_of_three_columns(self):
        for size in range(5, 9):
            self.check_some(3, size, 40)

    def test_some_of_more_columns(self):
        for columns in range(4, 8):
            for size in range(3, 10):
                self.check_some(columns, size, 15)

    def test_some_with_ten_searches(self):
        for columns in range(4, 8):
            self.check_some(columns, 10, 15)

    def test_many_that_lie_in_one_another(self):
        # Few columns change between these, so that long chains and many links come about.
        near = [[0], [0, 1], [0, 1, 2], [1, 2], [2], [0, 1, 2, 3], [1, 2, 3], [0, 1, 2, 3, 4], [2, 3], []]
        drawn = Random(95)
        for time in range(10):
            self.check(7, drawn.sample(near, 10))
