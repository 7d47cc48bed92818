import unittest

from tests.helper import (GREATEST, GREATEST_VALUE, LEAST, LEAST_VALUE, ROWS, SEARCHES, ask, begin, find, place, put,
                          search, take, told, with_rows, wrong_rows)


class PlaceTest(unittest.TestCase):
    def test_rows_that_are_there(self):
        given = with_rows(*[place(0, *row) for row in ROWS], *[place(1, *row) for row in ROWS])
        self.assertEqual(given[:5], [[1, 4], [1, 3], [1, 2], [1, 0], [1, 1]])
        self.assertEqual(given[5:], [[1, 1], [1, 3], [1, 0], [1, 4], [1, 2]])

    def test_rows_that_are_not_there(self):
        others = [[5, 1, 8], [5, 1, 6], [0, 0, 0], [9, 0, 9], [3, 1, 0], [-5, 1, 8], [1, 5, 7]]
        given = with_rows(*[place(0, *row) for row in others], *[place(1, *row) for row in others])
        self.assertEqual(given[:7], [[0, 5], [0, 4], [0, 0], [0, 1], [0, 3], [0, 1], [0, 5]])
        self.assertEqual(given[7:], [[0, 2], [0, 1], [0, 1], [0, 5], [0, 1], [0, 2], [0, 1]])

    def test_ahead_of_all_and_behind_all(self):
        given = with_rows(*[place(order, *[value] * 3) for order in (0, 1) for value in (LEAST_VALUE, GREATEST_VALUE)])
        self.assertEqual(given, [[0, 0], [0, 5], [0, 0], [0, 5]])

    def test_no_rows_there(self):
        self.assertEqual(told(3, SEARCHES, place(0, 1, 2, 3), place(1, 1, 2, 3)), [[0, 0], [0, 0]])

    def test_one_column(self):
        given = told(1, [[]], put(4), put(-4), place(0, 4), place(0, -4), place(0, 0), place(0, 5), place(0, -5))
        self.assertEqual(given[2:], [[1, 1], [1, 0], [0, 1], [0, 2], [0, 0]])

    def test_later_columns_count_where_earlier_ones_are_alike(self):
        # The order is 6, 2, 4, 0, 1, 3, 5.
        row = [0, 0, 0, 0, 0, 0, 0]
        lesser = [[9, 9, 9, 9, 9, 9, -1], [9, 9, -1, 9, 9, 9, 0], [9, 9, 0, 9, -1, 9, 0], [-1, 9, 0, 9, 0, 9, 0],
                  [0, -1, 0, 9, 0, 9, 0], [0, 0, 0, -1, 0, 9, 0], [0, 0, 0, 0, 0, -1, 0]]
        for one in lesser:
            greater = [-value for value in one]
            given = told(7, [[6], [2, 4, 6]], put(*one), put(*greater), place(0, *row), place(0, *one),
                         place(0, *greater))
            self.assertEqual(given[2:], [[0, 1], [1, 0], [1, 1]], one)

    def test_after_take_and_put(self):
        given = with_rows(take(4, 0, 9), place(0, 5, 1, 7), place(0, 4, 0, 9), put(4, 0, 9), place(0, 5, 1, 7),
                          put(4, 0, 8), place(0, 4, 0, 9), place(1, 4, 0, 9))
        self.assertEqual(given, [[1], [1, 3], [0, 0], [1], [1, 4], [1], [1, 1], [1, 5]])

    def test_after_another_search_that_changes_an_order(self):
        given = told(3, [[0]], put(1, 2, 5), put(1, 3, 4), place(0, 1, 2, 5), search(0, 2), place(0, 1, 2, 5),
                     place(0, 1, 3, 4))
        self.assertEqual(given[2:], [[1, 0], [1], [1, 1], [1, 0]])

    def test_after_another_search_that_numbers_the_orders_anew(self):
        # At first order 0 is 1, 0, 2; then its chain begins by search 2, and order 0 is 2, 0, 1.
        given = told(3, [[1], [2]], put(1, 5, 3), put(1, 4, 9), place(0, 1, 5, 3), place(1, 1, 5, 3), search(),
                     place(0, 1, 5, 3), place(1, 1, 5, 3))
        self.assertEqual(given[2:], [[1, 1], [1, 0], [2], [1, 0], [1, 1]])

    def test_no_such_order(self):
        for order in (-1, -2, -3, 2, 3, 10, GREATEST, LEAST):
            given = with_rows(place(order, 5, 1, 7), place(order, 0, 0, 0), place(order), place(order, 1, 2),
                              place(order, GREATEST, 0, 0), place(order, *[LEAST] * 30))
            self.assertEqual(given, [[-2]] * 6, order)

    def test_no_searches(self):
        given = ask(begin(2), put(1, 2), place(0, 1, 2), place(-1, 1, 2), place(1, 1, 2), place(0, 1))
        self.assertEqual(given, [[0], [1], [-2], [-2], [-2], [-2]])

    def test_a_search_that_is_no_order(self):
        # One chain for three searches: there's order 0 alone.
        given = told(3, [[1], [0, 1], [0, 1, 2]], place(0, 1, 2, 3), place(1, 1, 2, 3), place(2, 1, 2, 3))
        self.assertEqual(given, [[0, 0], [-2], [-2]])

    def test_order_that_comes_to_be_there(self):
        given = ask(begin(2), place(0, 1, 2), search(0), place(0, 1, 2), place(1, 1, 2), search(1), place(1, 1, 2),
                    place(2, 1, 2))
        self.assertEqual(given, [[0], [-2], [0], [0, 0], [-2], [1], [0, 0], [-2]])

    def test_wrong_rows(self):
        for order in (0, 1):
            for row in wrong_rows(5, 1, 7):
                self.assertEqual(with_rows(place(order, *row)), [[-1]], row)

    def test_asking_changes_nothing(self):
        given = with_rows(place(0, 0, 1, 0), find(0, 1), place(0, 0, 1, 0), find(0, 1), put(0, 1, 0))
        self.assertEqual(given[2:], given[:2] + [[1]])
