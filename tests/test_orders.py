import unittest

from tests.helper import GREATEST, LEAST, ask, begin, orders, search, serves, told


class OrdersTest(unittest.TestCase):
    def check(self, columns, searches, wanted):
        """What is wanted is a list of the orders."""
        numbers = [len(wanted)] + [column for order in wanted for column in order]
        self.assertEqual(told(columns, searches, orders()), [numbers])

    def test_no_searches(self):
        for columns in range(1, 8):
            self.check(columns, [], [])

    def test_one_search(self):
        self.check(1, [[0]], [[0]])
        self.check(3, [[1]], [[1, 0, 2]])
        self.check(4, [[1, 3]], [[1, 3, 0, 2]])
        self.check(7, [[0, 1, 2, 3, 4, 5, 6]], [[0, 1, 2, 3, 4, 5, 6]])

    def test_empty_search(self):
        self.check(1, [[]], [[0]])
        self.check(3, [[]], [[0, 1, 2]])
        self.check(3, [[], [2]], [[2, 0, 1]])
        self.check(3, [[2], [], [1]], [[2, 0, 1], [1, 0, 2]])

    def test_one_lies_in_the_other(self):
        self.check(3, [[2], [0, 2]], [[2, 0, 1]])
        self.check(3, [[2], [1]], [[2, 0, 1], [1, 0, 2]])
        self.check(3, [[0, 1], [1, 2]], [[0, 1, 2], [1, 2, 0]])

    def test_first_by_numbers_where_both_will_do(self):
        self.check(3, [[1], [1, 2], [0, 1]], [[1, 2, 0], [0, 1, 2]])
        self.check(3, [[1], [0, 1], [1, 2]], [[1, 0, 2], [1, 2, 0]])

    def test_first_by_numbers_would_cost_a_link(self):
        # 0 lies in 1 and 3, but 2 lies in 1 alone.
        self.check(3, [[0], [0, 1], [1], [0, 2]], [[0, 2, 1], [1, 0, 2]])
        # 0 lies in 1, 2 and 3; 1 and 2 lie in 3 alone.
        self.check(3, [[], [0], [1], [0, 1, 2]], [[0, 1, 2], [1, 0, 2]])
        # 0 lies in 1 and 2; 1 lies in 2 alone, so 0 has 1.
        self.check(3, [[0], [0, 1], [0, 1, 2]], [[0, 1, 2]])
        # 0 lies in 1 and 2; 2 lies in 1 alone, so 0 has 2.
        self.check(3, [[0], [0, 1, 2], [0, 1]], [[0, 1, 2]])

    def test_two_firsts_would_cost_a_link(self):
        # 0 lies in 1, 3 and 5; 2 lies in 1 alone and 4 in 3 alone.
        self.check(4, [[0], [0, 1], [1], [0, 2], [2], [0, 3]], [[0, 3, 1, 2], [1, 0, 2, 3], [2, 0, 1, 3]])

    def test_left_with_no_next_one(self):
        self.check(2, [[0], [1], [0, 1]], [[0, 1], [1, 0]])
        self.check(3, [[1], [2], [0], [0, 1, 2]], [[1, 0, 2], [2, 0, 1], [0, 1, 2]])
        # 3 lies in 2, which 0 has; 1 has none from the beginning.
        self.check(3, [[0], [2], [0, 1], [1]], [[0, 1, 2], [2, 0, 1], [1, 0, 2]])

    def test_long_chains(self):
        self.check(3, [[], [1], [1, 2], [0, 1, 2]], [[1, 2, 0]])
        self.check(4, [[3], [1, 3], [0, 1, 3]], [[3, 1, 0, 2]])
        self.check(5, [[3], [1, 2, 3], [0, 1, 2, 3]], [[3, 1, 2, 0, 4]])
        eight = [[6, 5, 4, 3, 2, 1, 0][:size][::-1] for size in range(8)]
        self.check(7, eight, [[6, 5, 4, 3, 2, 1, 0]])
        self.check(7, eight[::-1], [[6, 5, 4, 3, 2, 1, 0]])

    def test_first_search_has_a_greater_number(self):
        self.check(3, [[0, 1], [1]], [[1, 0, 2]])
        self.check(3, [[0, 1, 2], [1, 2], [2]], [[2, 1, 0]])
        # Chains 1, 0 and 2 alone: numbered by 1 and 2, not by 0.
        self.check(3, [[0, 1], [1], [2]], [[1, 0, 2], [2, 0, 1]])
        # Chains 1 alone and 2, 0: 1 comes ahead of 2.
        self.check(3, [[0, 1], [2], [1]], [[2, 0, 1], [1, 0, 2]])

    def test_ten_searches(self):
        pairs = [[0, 1], [0, 2], [0, 3], [0, 4], [1, 2], [1, 3], [1, 4], [2, 3], [2, 4], [3, 4]]
        rest = [[2, 3, 4], [1, 3, 4], [1, 2, 4], [1, 2, 3], [0, 3, 4], [0, 2, 4], [0, 2, 3], [0, 1, 4],
                [0, 1, 3], [0, 1, 2]]
        self.check(5, pairs, [pair + others for pair, others in zip(pairs, rest)])
        self.check(4, [[], [0], [1], [2], [3], [0, 1], [0, 2], [0, 3], [1, 2], [1, 3]],
                   [[0, 1, 2, 3], [1, 2, 0, 3], [2, 0, 1, 3], [3, 0, 1, 2], [1, 3, 0, 2]])

    def test_again_after_one_more_search(self):
        given = ask(begin(3), search(0), orders(), orders(), search(0, 1), orders(), search(1), orders(),
                    search(0, 2), orders(), search(0, 1, 2), orders())
        self.assertEqual(given[2:], [
            [1, 0, 1, 2], [1, 0, 1, 2], [1], [1, 0, 1, 2], [2], [2, 0, 1, 2, 1, 0, 2],
            [3], [2, 0, 2, 1, 1, 0, 2], [4], [2, 0, 2, 1, 1, 0, 2]])


class ServesTest(unittest.TestCase):
    def check(self, columns, searches, wanted):
        """What is wanted is a list of each search's answer."""
        given = told(columns, searches, *[serves(which) for which in range(len(searches))])
        self.assertEqual(given, wanted)

    def test_each_search(self):
        self.check(3, [[1]], [[0, 1]])
        self.check(3, [[0, 1, 2], [1, 2], [2]], [[0, 3], [0, 2], [0, 1]])
        self.check(3, [[0], [0, 1], [1], [0, 2]], [[0, 1], [1, 2], [1, 1], [0, 2]])
        self.check(3, [[0, 1], [2], [1]], [[1, 2], [0, 1], [1, 1]])
        self.check(2, [[0], [1], [0, 1]], [[0, 1], [1, 1], [0, 2]])

    def test_empty_search(self):
        self.check(3, [[]], [[0, 0]])
        self.check(3, [[2], []], [[0, 1], [0, 0]])
        # Every order serves the empty search, but its own is its chain's.
        self.check(3, [[], [2], [1]], [[0, 0], [0, 1], [1, 1]])
        self.check(3, [[2], [1], [], [0]], [[1, 1], [0, 1], [1, 0], [2, 1]])
        # Chain 3, 0, 2 comes behind chain 1.
        self.check(3, [[0], [1], [0, 1], []], [[1, 1], [0, 1], [1, 2], [1, 0]])

    def test_no_such_search(self):
        for searches in ([], [[]], [[0]], [[0], [1], [0, 1]]):
            for which in (-1, -2, LEAST, len(searches), len(searches) + 1, 10, 1000, GREATEST):
                self.assertEqual(told(3, searches, serves(which)), [[-2]], which)

    def test_number_that_comes_to_be_there(self):
        given = ask(begin(2), serves(0), search(1), serves(0), serves(1), search(0), serves(1), begin(2), serves(0))
        self.assertEqual(given, [[0], [-2], [0], [0, 1], [-2], [1], [1, 1], [0], [-2]])

    def test_its_order_has_its_columns_first(self):
        searches = [[], [0], [1], [2], [0, 1], [2, 3], [1, 2, 3], [0, 1, 2], [3], [0, 1, 2, 3]]
        given = told(4, searches, orders(), *[serves(which) for which in range(10)])
        listed = given[0][1:]
        for known, answer in zip(searches, given[1:]):
            start = answer[0] * 4
            self.assertEqual(answer[1], len(known))
            self.assertEqual(sorted(listed[start:start + len(known)]), known)
