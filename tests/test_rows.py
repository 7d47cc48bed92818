import unittest

from tests.helper import (GREATEST, GREATEST_VALUE, LEAST, LEAST_VALUE, apart, ask, begin, find, found, next_row,
                          orders, place, put, search, serves, take, told, wrong_rows)


def numbered(how_many):
    return [put(number, -number) for number in range(how_many)]


class PutTest(unittest.TestCase):
    def test_as_many_numbers_as_columns(self):
        for columns in range(1, 8):
            row = range(columns)
            self.assertEqual(told(columns, [[]], put(*row), find(0)), [[1], found(row)])

    def test_wrong_rows(self):
        for columns in range(1, 8):
            for row in wrong_rows(*range(columns)):
                self.assertEqual(told(columns, [[]], put(*row), find(0)), [[-1], [0]], row)

    def test_greatest_and_least_values(self):
        rows = [[LEAST_VALUE, LEAST_VALUE], [LEAST_VALUE, GREATEST_VALUE], [0, 0], [GREATEST_VALUE, LEAST_VALUE],
                [GREATEST_VALUE, GREATEST_VALUE]]
        given = told(2, [[]], *[put(*row) for row in rows], find(0))
        self.assertEqual(given, [[1]] * 5 + [found(*rows)])

    def test_beyond_the_values(self):
        for number in (LEAST_VALUE - 1, GREATEST_VALUE + 1, LEAST, GREATEST):
            for row in ([number, 0], [0, number], [number, number]):
                self.assertEqual(told(2, [[]], put(*row), find(0)), [[-1], [0]], row)

    def test_the_same_again(self):
        given = told(2, [[]], put(3, 4), put(3, 4), put(4, 3), put(3, 4), put(4, 3), find(0))
        self.assertEqual(given, [[1], [0], [1], [0], [0], found([3, 4], [4, 3])])

    def test_alike_in_all_columns_but_one(self):
        given = told(3, [[]], put(1, 1, 1), put(1, 1, 2), put(1, 2, 1), put(2, 1, 1), put(-1, 1, 1), find(0))
        self.assertEqual(given, [[1]] * 5 + [found([-1, 1, 1], [1, 1, 1], [1, 1, 2], [1, 2, 1], [2, 1, 1])])

    def test_without_searches(self):
        self.assertEqual(ask(begin(2), put(1, 2), put(1, 2), put(1), search(), find(0)),
                         [[0], [1], [0], [-1], [0], found([1, 2])])

    def test_as_many_as_sixty_calls_let_be_put(self):
        self.assertEqual(ask(begin(2), *numbered(59)), [[0]] + [[1]] * 59)
        rows = [[number, -number] for number in range(57)]
        self.assertEqual(ask(begin(2), *numbered(57), search(), find(0)), [[0]] + [[1]] * 57 + [[0], found(*rows)])

    # There can't be 60 rows within 60 calls, so what is told of them is asked by longer lists.
    def test_sixty_first(self):
        given = told(2, [[]], *numbered(60), put(0, 1), put(60, -60), find(0))
        self.assertEqual(given[:62], [[1]] * 60 + [[-6]] * 2)
        self.assertEqual(given[62], found(*[[number, -number] for number in range(60)]))

    def test_there_and_wrong_count_ahead_of_sixty(self):
        given = told(2, [[]], *numbered(60), put(0, 0), put(59, -59), put(1), put(1, 2, 3), put(GREATEST, 0))
        self.assertEqual(given[60:], [[0], [0], [-1], [-1], [-1]])

    def test_after_one_of_sixty_is_taken(self):
        given = told(2, [[]], *numbered(60), put(0, 1), take(7, -7), put(0, 1), put(7, -7), take(0, 1), put(7, -7))
        self.assertEqual(given[60:], [[-6], [1], [1], [-6], [1], [1]])

    def test_refused_changes_nothing(self):
        looks = [find(0), find(1, 4), next_row(1, [4], [0, 0]), place(0, 4, 4), orders(), apart(), serves(1)]
        rows = [put(4, 5), put(3, 4), put(5, 4)]
        before = told(2, [[], [1]], *rows, *looks)
        given = told(2, [[], [1]], *rows, put(4), put(4, 5, 6), put(), put(4, GREATEST), put(3, 4), *looks)
        self.assertEqual(given[3:8], [[-1], [-1], [-1], [-1], [0]])
        self.assertEqual(given[8:], before[3:])

    def test_rows_do_not_change_orders(self):
        looks = [orders(), apart(), serves(0), serves(1), serves(2)]
        given = told(3, [[1], [0, 1], [2]], *looks, put(9, 8, 7), put(1, 2, 3), *looks, take(9, 8, 7), *looks)
        self.assertEqual(given[7:12], given[:5])
        self.assertEqual(given[13:], given[:5])


class TakeTest(unittest.TestCase):
    def test_there_then_not_then_again(self):
        given = told(2, [[]], put(3, 4), take(3, 4), find(0), take(3, 4), put(3, 4), find(0), take(3, 4), take(3, 4))
        self.assertEqual(given, [[1], [1], [0], [0], [1], found([3, 4]), [1], [0]])

    def test_never_there(self):
        self.assertEqual(told(2, [[]], take(3, 4)), [[0]])
        given = told(2, [[]], put(3, 4), take(4, 3), take(3, 5), take(2, 4), find(0))
        self.assertEqual(given, [[1], [0], [0], [0], found([3, 4])])

    def test_takes_that_one_alone(self):
        rows = [[1, 1], [1, 2], [2, 1], [2, 2]]
        for row in rows:
            given = told(2, [[]], *[put(*one) for one in rows], take(*row), find(0))
            self.assertEqual(given[4:], [[1], found(*[one for one in rows if one != row])])

    def test_wrong_rows(self):
        for columns in range(1, 8):
            right = range(columns)
            for row in wrong_rows(*right):
                self.assertEqual(told(columns, [[]], take(*row)), [[-1]], row)
                self.assertEqual(told(columns, [[]], put(*right), take(*row), find(0)), [[1], [-1], found(right)], row)

    def test_greatest_and_least_values(self):
        given = told(2, [[]], put(LEAST_VALUE, GREATEST_VALUE), take(GREATEST_VALUE, LEAST_VALUE),
                     take(LEAST_VALUE, GREATEST_VALUE), find(0))
        self.assertEqual(given, [[1], [0], [1], [0]])

    def test_put_behind_others_again(self):
        given = told(1, [[]], put(1), put(2), put(3), take(1), put(1), find(0), take(2), find(0))
        self.assertEqual(given[3:], [[1], [1], [3, 1, 2, 3], [1], [2, 1, 3]])

    def test_without_searches(self):
        self.assertEqual(ask(begin(1), take(1), put(1), take(1), take(1), take()), [[0], [0], [1], [1], [0], [-1]])
