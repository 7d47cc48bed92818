"""The answers beside those of a slow search through all possible links, all possible sets, and all rows."""

import unittest
from itertools import combinations, permutations
from random import Random

from tests import helper
from tests.helper import (SlowRelation, apart, ask, orders, serves, slow_apart, slow_chains, slow_orders, slow_serves,
                          told)


def all_searches(columns):
    return [list(known) for size in range(columns + 1) for known in combinations(range(columns), size)]


class SlowTest(unittest.TestCase):
    def check(self, columns, searches):
        numbers = range(len(searches))
        given = told(columns, searches, orders(), apart(), *[serves(which) for which in numbers])
        chains = slow_chains(searches)
        wanted = [slow_orders(columns, searches, chains), slow_apart(searches)]
        wanted += [slow_serves(searches, chains, which) for which in numbers]
        self.assertEqual(given, wanted, (columns, searches))
        self.assertEqual(given[0][0], given[1][0])

    def check_all(self, columns, most):
        for size in range(most + 1):
            for searches in permutations(all_searches(columns), size):
                self.check(columns, list(searches))

    def test_all_of_one_column(self):
        self.check_all(1, 2)

    def test_all_of_two_columns(self):
        self.check_all(2, 4)

    def test_all_of_three_columns_with_up_to_four_searches(self):
        self.check_all(3, 4)

    def check_some(self, columns, size, times):
        drawn = Random(columns * 100 + size)
        for time in range(times):
            self.check(columns, drawn.sample(all_searches(columns), size))

    def test_some_of_three_columns(self):
        for size in range(5, 9):
            self.check_some(3, size, 40)

    def test_some_of_more_columns(self):
        for columns in range(4, 8):
            for size in range(3, 10):
                self.check_some(columns, size, 15)

    def test_some_with_ten_searches(self):
        for columns in range(4, 8):
            self.check_some(columns, 10, 15)

    def test_many_that_lie_in_one_another(self):
        # Few columns change between these, so that long chains and many links come about.
        near = [[0], [0, 1], [0, 1, 2], [1, 2], [2], [0, 1, 2, 3], [1, 2, 3], [0, 1, 2, 3, 4], [2, 3], []]
        drawn = Random(95)
        for time in range(10):
            self.check(7, drawn.sample(near, 10))


class Drawn:
    """Draws lists of calls in which much is alike, so that rows and searches are met again."""

    def __init__(self, columns):
        self.random = Random(columns)
        self.columns = columns
        self.known = []
        self.rows = []

    def chance(self, percent):
        return self.random.randrange(100) < percent

    def spoilt(self, numbers):
        """Mostly these numbers; at times too many, too few, or one that is an edge of the values or beyond it."""
        if self.chance(3):
            return self.random.choice([[], numbers[1:], numbers + [0], [0] * 30])
        if numbers and self.chance(4):
            edges = [10 ** 9, -10 ** 9, 10 ** 9 + 1, -10 ** 9 - 1, 2 * 10 ** 9, -2 * 10 ** 9]
            at = self.random.randrange(len(numbers))
            return numbers[:at] + [self.random.choice(edges)] + numbers[at + 1:]
        return numbers

    def row(self):
        """A new row, or an earlier one, or one that differs from an earlier one in one column."""
        row = [self.random.choice([-1, 0, 0, 1]) for column in range(self.columns)]
        if self.rows and self.chance(70):
            row = list(self.random.choice(self.rows))
            if self.chance(60):
                row[self.random.randrange(self.columns)] = self.random.choice([-2, -1, 0, 1, 2])
        self.rows.append(row)
        return row

    def number(self, size):
        """Mostly a number from 0 on and below the size, at times another one."""
        if size and self.chance(95):
            return self.random.randrange(size)
        return self.random.choice([-1, size, size + 1, 2 * 10 ** 9, -2 * 10 ** 9])

    def values(self, which):
        """Mostly those of a row in the search's columns."""
        row = self.row()
        if which not in range(len(self.known)):
            return row
        return self.spoilt([row[column] for column in self.known[which]])

    def begin(self):
        if self.chance(40):
            return ("begin", self.random.choice([0, 8, -1, 2 * 10 ** 9]))
        self.known = []
        return ("begin", self.columns)

    def search(self):
        known = [column for column in range(self.columns) if self.chance(40)]
        if self.chance(5):
            return ("search", *known, self.random.choice([self.columns, -1]))
        if known not in self.known and len(self.known) < 10:
            self.known.append(known)
        return ("search", *known)

    def call(self):
        names = ["begin", "search", "orders", "serves", "apart", "put", "take", "find", "next_row", "place"]
        name = self.random.choices(names, [0.3, 2, 1, 2, 1, 14, 3, 7, 9, 7])[0]
        if name in ("orders", "apart"):
            return (name,)
        if name in ("begin", "search"):
            return getattr(self, name)()
        if name in ("put", "take"):
            return (name, *self.spoilt(self.row()))
        if name == "place":
            return (name, self.number(min(len(self.known), 3)), *self.spoilt(self.row()))
        which = self.number(len(self.known))
        if name == "serves":
            return (name, which)
        if name == "find":
            return (name, which, *self.values(which))
        return (name, which, self.values(which), self.spoilt(self.row()))

    def calls(self):
        """Mostly a relation and some searches are there first."""
        self.known = []
        self.rows = []
        first = []
        if self.chance(95):
            first = [("begin", self.columns)] + [self.search() for turn in range(self.random.randrange(8))]
        return first + [self.call() for turn in range(self.random.randint(1, 60 - len(first)))]


class MixedTest(unittest.TestCase):
    """All ten calls, mixed."""

    def check(self, columns, times):
        """Gives back how often each call was given each kind of answer."""
        drawn = Drawn(columns)
        seen = {}
        for time in range(times):
            calls = drawn.calls()
            slow = SlowRelation()
            wanted = [slow.answer(*call) for call in calls]
            self.assertEqual(ask(*[getattr(helper, name)(*handed) for name, *handed in calls]), wanted, calls)
            for call, answer in zip(calls, wanted):
                kind = (call[0], min(answer[0], 2))
                seen[kind] = seen.get(kind, 0) + 1
        return seen

    def test_one_column(self):
        self.check(1, 100)

    def test_two_columns(self):
        self.check(2, 200)

    def test_three_columns(self):
        seen = self.check(3, 300)
        # What is drawn has each answer often enough to tell something.
        for name, kinds in (("put", (1, 0, -1, -9)), ("take", (1, 0, -1, -9)), ("find", (0, 1, 2, -1, -2, -9)),
                            ("next_row", (2, -1, -2, -4, -9)), ("place", (0, 1, -1, -2, -9))):
            for kind in kinds:
                self.assertGreater(seen.get((name, kind), 0), 10, (name, kind))

    def test_more_columns(self):
        for columns in (4, 5, 6, 7):
            self.check(columns, 100)
