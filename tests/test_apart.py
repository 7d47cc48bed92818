import unittest

from tests.helper import apart, ask, begin, orders, search, told


class ApartTest(unittest.TestCase):
    def check(self, columns, searches, wanted):
        """What is wanted is a list of the searches' numbers."""
        given = told(columns, searches, apart(), orders())
        self.assertEqual(given[0], [len(wanted)] + wanted)
        self.assertEqual(given[0][0], given[1][0])

    def test_no_searches(self):
        self.check(3, [], [])

    def test_one_search(self):
        self.check(3, [[1]], [0])
        self.check(3, [[]], [0])
        self.check(1, [[0]], [0])

    def test_each_lies_in_the_next_one(self):
        self.check(3, [[], [1], [1, 2], [0, 1, 2]], [0])
        self.check(3, [[0, 1, 2], [1, 2], [1], []], [0])
        self.check(3, [[1, 2], [1], [0, 1, 2]], [0])

    def test_none_lies_in_another_one(self):
        self.check(3, [[2], [0], [1]], [0, 1, 2])
        self.check(3, [[1, 2], [0]], [0, 1])
        self.check(5, [[0, 1], [0, 2], [0, 3], [0, 4], [1, 2], [1, 3], [1, 4], [2, 3], [2, 4], [3, 4]],
                   list(range(10)))

    def test_first_of_several(self):
        self.check(3, [[0], [0, 1], [1], [0, 2]], [0, 2])
        self.check(3, [[0, 1], [0, 2], [0], [1]], [0, 1])
        self.check(3, [[0, 1], [0], [1], [0, 2]], [0, 3])
        self.check(3, [[0], [1], [2], [0, 1], [0, 2], [1, 2]], [0, 1, 2])
        self.check(3, [[0, 1], [0], [0, 2], [1], [1, 2], [2]], [0, 2, 4])
        self.check(3, [[2], [0, 1], [0, 2], [1, 2], [0], [1]], [0, 4, 5])

    def test_as_many_as_can_be_counts_ahead_of_the_first(self):
        self.check(3, [[], [0], [1]], [1, 2])
        self.check(3, [[0, 1, 2], [0], [1]], [1, 2])
        self.check(4, [[0, 1], [2], [0], [1], [3]], [1, 2, 3, 4])

    def test_ten_searches(self):
        self.check(4, [[], [0], [1], [2], [3], [0, 1], [0, 2], [0, 3], [1, 2], [1, 3]], [5, 6, 7, 8, 9])
        self.check(7, [[0], [0, 1], [1], [1, 2], [2], [2, 3], [3], [3, 4], [4], [4, 5]], [0, 2, 4, 6, 8])

    def test_again_after_one_more_search(self):
        given = ask(begin(3), apart(), search(0, 1), apart(), search(0), apart(), search(1), apart(), apart())
        self.assertEqual(given[1:], [[0], [0], [1, 0], [1], [1, 0], [2], [2, 1, 2], [2, 1, 2]])
