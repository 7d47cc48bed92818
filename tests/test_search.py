import unittest

from tests.helper import GREATEST, LEAST, apart, ask, begin, orders, search, serves, told

TEN = [[], [0], [1], [2], [3], [0, 1], [0, 2], [0, 3], [1, 2], [1, 3]]


class SearchTest(unittest.TestCase):
    def test_numbers_from_0_on(self):
        given = ask(begin(4), *[search(*known) for known in TEN])
        self.assertEqual(given, [[0]] + [[number] for number in range(10)])

    def test_empty_and_all_columns(self):
        for columns in range(1, 8):
            self.assertEqual(ask(begin(columns), search(), search(*range(columns))), [[0], [0], [1]])

    def test_not_columns(self):
        for known in ([-1], [3], [0, 3], [-1, 0], [0, 1, 2, 3], [GREATEST], [LEAST], [0, GREATEST], [LEAST, 0],
                      [LEAST, GREATEST], [7], [8], [-1, 0, 1], [-3, -2, -1]):
            self.assertEqual(ask(begin(3), search(*known)), [[0], [-1]], known)

    def test_not_each_lesser_than_the_next(self):
        for known in ([0, 0], [2, 2], [0, 1, 1], [0, 0, 1], [1, 0], [2, 1], [2, 1, 0], [0, 2, 1], [1, 2, 0],
                      [0, 1, 0]):
            self.assertEqual(ask(begin(3), search(*known)), [[0], [-1]], known)

    def test_thirty_numbers(self):
        for known in (range(30), [0] * 30, [6] * 30, range(29, -1, -1), [GREATEST] * 30, [LEAST] * 30,
                      range(-29, 1), [0, 1, 2, 3, 4, 5, 6] + [1] * 23):
            given = ask(begin(7), search(*known), search(6), orders())
            self.assertEqual(given, [[0], [-1], [0], [1, 6, 0, 1, 2, 3, 4, 5]])

    def test_there_already(self):
        for number, known in enumerate(TEN[:9]):
            self.assertEqual(told(4, TEN[:9], search(*known)), [[-3]], number)

    def test_eleventh(self):
        self.assertEqual(told(4, TEN, search(2, 3), search(0, 1, 2, 3)), [[-6], [-6]])

    def test_wrong_counts_ahead_of_full(self):
        self.assertEqual(told(4, TEN, search(4), search(3, 2), search(2, 2), search(*range(30))), [[-1]] * 4)

    def test_there_already_counts_ahead_of_full(self):
        self.assertEqual(told(4, TEN, *[search(*known) for known in TEN]), [[-3]] * 10)

    def test_wrong_counts_ahead_of_there_already(self):
        self.assertEqual(told(4, [[1, 2], [3]], search(2, 1), search(3, 3), search(1, 2, 2)), [[-1]] * 3)
        self.assertEqual(told(4, TEN, search(1, 0), search(0, 0)), [[-1]] * 2)

    def test_refused_changes_nothing_and_takes_no_number(self):
        before = told(3, [[1], [0, 1]], orders(), apart(), serves(0), serves(1))
        refused = [search(3), search(1), search(1, 0), search(-1), search(0, 1)]
        given = told(3, [[1], [0, 1]], *refused, orders(), apart(), serves(0), serves(1), serves(2), search(2))
        self.assertEqual(given[:5], [[-1], [-3], [-1], [-1], [-3]])
        self.assertEqual(given[5:9], before)
        self.assertEqual(given[9:], [[-2], [2]])

    def test_refused_when_full_changes_nothing(self):
        looks = [orders(), apart()] + [serves(which) for which in range(10)]
        before = told(4, TEN, *looks)
        given = told(4, TEN, search(2, 3), search(4), search(0), *looks, serves(10))
        self.assertEqual(given, [[-6], [-1], [-3]] + before + [[-2]])
