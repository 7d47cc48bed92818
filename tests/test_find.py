import unittest

from tests.helper import (GREATEST, GREATEST_VALUE, LEAST, LEAST_VALUE, ROWS, SEARCHES, ask, begin, find, found,
                          next_row, place, put, search, take, told, with_rows, wrong_rows)

NO_SEARCHES = (-1, -2, -4, 4, 5, 10, GREATEST, LEAST)


class FindTest(unittest.TestCase):
    def check(self, which, values, *rows):
        self.assertEqual(with_rows(find(which, *values)), [found(*rows)])

    def test_several_rows_as_they_stand_in_its_order(self):
        self.check(0, [1], [-5, 1, 9], [3, 1, -2], [3, 1, 9], [5, 1, 7])
        self.check(1, [3, 1], [3, 1, -2], [3, 1, 9])
        self.check(2, [9], [-5, 1, 9], [3, 1, 9], [4, 0, 9])

    def test_one_row(self):
        self.check(0, [0], [4, 0, 9])
        self.check(1, [-5, 1], [-5, 1, 9])
        self.check(2, [-2], [3, 1, -2])
        for row in ROWS:
            self.check(3, row, row)

    def test_no_row(self):
        self.check(0, [5])
        self.check(1, [1, 3])
        self.check(1, [4, 1])
        self.check(2, [1])
        self.check(3, [1, 5, 7])
        self.check(0, [GREATEST_VALUE])
        self.check(0, [LEAST_VALUE])

    def test_no_rows_there(self):
        given = told(3, SEARCHES, find(0, 1), find(1, 3, 1), find(2, 9), find(3, 5, 1, 7))
        self.assertEqual(given, [[0]] * 4)

    def test_written_out(self):
        self.assertEqual(with_rows(find(1, 3, 1)), [[2, 3, 1, -2, 3, 1, 9]])

    def test_first_value_is_in_the_lowest_column(self):
        # Search 1 stands in the order 1, 0, 2, but its values are told by 0, 1.
        given = told(3, SEARCHES, put(1, 3, 0), put(3, 1, 0), find(1, 1, 3), find(1, 3, 1), find(3, 1, 3, 0))
        self.assertEqual(given[2:], [found([1, 3, 0]), found([3, 1, 0]), found([1, 3, 0])])

    def test_empty_search_finds_all(self):
        given = told(2, [[]], find(0), put(2, 1), find(0), put(1, 2), find(0), put(-7, 9), put(1, -3), find(0))
        self.assertEqual(given, [[0], [1], found([2, 1]), [1], found([1, 2], [2, 1]), [1], [1],
                                 found([-7, 9], [1, -3], [1, 2], [2, 1])])

    def test_empty_search_stands_in_the_order_of_its_chain(self):
        rows = [put(1, 2, 0), put(2, 1, 3), put(1, 1, 3), put(3, 3, -1)]
        # The chains are 1 alone and 2, 0, so search 2 stands in the order 1, 0, 2.
        given = told(3, [[1], [2], []], *rows, find(2))
        self.assertEqual(given[4], found([1, 1, 3], [2, 1, 3], [1, 2, 0], [3, 3, -1]))
        # The chain is 1, 0.
        given = told(3, [[2], []], *rows, find(1))
        self.assertEqual(given[4], found([3, 3, -1], [1, 2, 0], [1, 1, 3], [2, 1, 3]))

    def test_all_columns_behind_others(self):
        # The chain is 1, 0, in the order 2, 0, 1.
        given = told(3, [[0, 1, 2], [2]], put(1, 2, 3), put(2, 1, 3), put(1, 3, 3), find(0, 1, 2, 3), find(1, 3))
        self.assertEqual(given[3:], [found([1, 2, 3]), found([1, 2, 3], [1, 3, 3], [2, 1, 3])])

    def test_seven_columns(self):
        # The order is 6, 2, 4, 0, 1, 3, 5.
        rows = [[0, 0, 1, 0, 0, 0, 5], [9, 0, 0, 0, 0, 0, 5], [0, 0, 0, 0, 1, 0, 5], [8, 9, 0, 0, 0, 0, 5],
                [8, 0, 0, 0, 0, 1, 5], [8, 0, 0, 1, 0, 0, 5], [0, 0, 0, 0, 0, 0, 6]]
        given = told(7, [[6], [2, 4, 6]], *[put(*row) for row in rows], find(0, 5), find(1, 0, 0, 5), find(1, 0, 1, 5))
        self.assertEqual(given[7:], [found(rows[4], rows[5], rows[3], rows[1], rows[2], rows[0]),
                                     found(rows[4], rows[5], rows[3], rows[1]), found(rows[2])])

    def test_values_below_0_stand_first(self):
        numbers = [0, -1, 1, LEAST_VALUE, GREATEST_VALUE, -10, 10, -9, 9]
        given = told(1, [[]], *[put(number) for number in numbers], find(0))
        self.assertEqual(given[9], [9] + sorted(numbers))

    def test_values_as_great_as_can_be(self):
        given = told(2, [[1]], put(LEAST_VALUE, GREATEST_VALUE), put(GREATEST_VALUE, LEAST_VALUE),
                     find(0, GREATEST_VALUE), find(0, LEAST_VALUE))
        self.assertEqual(given[2:], [found([LEAST_VALUE, GREATEST_VALUE]), found([GREATEST_VALUE, LEAST_VALUE])])

    def test_after_take(self):
        given = with_rows(take(3, 1, -2), find(0, 1), take(4, 0, 9), find(0, 0), find(2, 9), find(3, 4, 0, 9))
        self.assertEqual(given, [[1], found([-5, 1, 9], [3, 1, 9], [5, 1, 7]), [1], [0],
                                 found([-5, 1, 9], [3, 1, 9]), [0]])

    def test_after_another_search_that_changes_its_order(self):
        given = told(3, [[0]], put(1, 2, 5), put(1, 3, 4), find(0, 1), search(0, 2), find(0, 1), find(1, 1, 4))
        self.assertEqual(given[2:], [found([1, 2, 5], [1, 3, 4]), [1], found([1, 3, 4], [1, 2, 5]), found([1, 3, 4])])

    def test_wrong_values(self):
        for which, known in enumerate(SEARCHES):
            for values in wrong_rows(*range(len(known))):
                self.assertEqual(with_rows(find(which, *values), find(0, 0)), [[-1], found([4, 0, 9])], values)

    def test_wrong_values_of_the_empty_search(self):
        for values in ([0], [1, 2], [GREATEST], [0] * 30):
            self.assertEqual(told(2, [[]], put(1, 2), find(0, *values)), [[1], [-1]], values)

    def test_no_such_search(self):
        for which in NO_SEARCHES:
            given = with_rows(find(which), find(which, 1), find(which, GREATEST), find(which, *[LEAST] * 30))
            self.assertEqual(given, [[-2]] * 4, which)
        self.assertEqual(told(2, [], find(0), find(-1)), [[-2]] * 2)

    def test_finding_changes_nothing(self):
        self.assertEqual(with_rows(find(0, 1), find(2, 9), find(0, 1), find(2, 9), take(5, 1, 7), put(5, 1, 7)),
                         with_rows(find(0, 1), find(2, 9)) * 2 + [[1], [1]])


class NextTest(unittest.TestCase):
    def check(self, which, values, row, wanted):
        """What is wanted is a row, or none."""
        self.assertEqual(with_rows(next_row(which, values, row)), [[3] + wanted if wanted else [-4]])

    def test_row_that_is_there(self):
        self.check(0, [1], [-5, 1, 9], [3, 1, -2])
        self.check(0, [1], [3, 1, -2], [3, 1, 9])
        self.check(0, [1], [3, 1, 9], [5, 1, 7])
        self.check(0, [1], [5, 1, 7], None)
        self.check(1, [3, 1], [3, 1, -2], [3, 1, 9])
        self.check(2, [9], [-5, 1, 9], [3, 1, 9])
        self.check(2, [9], [3, 1, 9], [4, 0, 9])
        self.check(2, [9], [4, 0, 9], None)

    def test_row_that_is_not_there(self):
        self.check(0, [1], [-4, 1, 0], [3, 1, -2])
        self.check(0, [1], [3, 1, 8], [3, 1, 9])
        self.check(0, [1], [3, 1, 10], [5, 1, 7])
        self.check(1, [3, 1], [3, 1, -1], [3, 1, 9])
        self.check(2, [9], [3, 0, 9], [3, 1, 9])
        self.check(2, [9], [3, 2, 9], [4, 0, 9])

    def test_ahead_of_all(self):
        self.check(0, [1], [LEAST_VALUE, 1, 0], [-5, 1, 9])
        self.check(0, [1], [LEAST_VALUE] * 3, [-5, 1, 9])
        self.check(1, [3, 1], [3, 1, -3], [3, 1, -2])
        self.check(2, [9], [-5, 0, 9], [-5, 1, 9])

    def test_behind_all(self):
        self.check(0, [1], [5, 1, 8], None)
        self.check(0, [1], [GREATEST_VALUE] * 3, None)
        self.check(1, [3, 1], [3, 1, 10], None)
        self.check(2, [9], [4, 1, 9], None)

    def test_row_without_the_values(self):
        self.check(0, [1], [9, 0, 9], [-5, 1, 9])
        self.check(0, [1], [-9, 2, -9], None)
        self.check(1, [3, 1], [9, 0, 9], [3, 1, -2])
        self.check(1, [3, 1], [2, 1, 9], [3, 1, -2])
        self.check(1, [3, 1], [4, 1, -9], None)
        self.check(1, [3, 1], [-9, 2, -9], None)
        self.check(2, [9], [9, 9, 8], [-5, 1, 9])
        self.check(2, [9], [-9, -9, 10], None)
        self.check(3, [3, 1, 9], [3, 1, -2], [3, 1, 9])
        self.check(3, [3, 1, 9], [3, 1, 9], None)

    def test_other_rows_between_are_left_out(self):
        given = told(2, [[], [0], [1]], put(1, 5), put(2, 5), put(3, 6), put(3, 5),
                     next_row(2, [5], [2, 5]), next_row(0, [], [2, 5]), next_row(1, [3], [1, 5]))
        # The chains are 0, 1 and 2 alone: the orders are 0, 1 and 1, 0.
        self.assertEqual(given[4:], [[2, 3, 5], [2, 3, 5], [2, 3, 5]])

    def test_values_that_no_row_has(self):
        self.check(0, [2], [LEAST_VALUE] * 3, None)
        self.check(1, [1, 3], [LEAST_VALUE] * 3, None)
        self.assertEqual(told(3, SEARCHES, next_row(0, [1], [0, 0, 0])), [[-4]])

    def test_empty_search(self):
        given = told(2, [[]], put(1, 5), put(-2, 3), next_row(0, [], [-3, 9]), next_row(0, [], [-2, 3]),
                     next_row(0, [], [1, 4]), next_row(0, [], [1, 5]))
        self.assertEqual(given[2:], [[2, -2, 3], [2, 1, 5], [2, 1, 5], [-4]])

    def test_row_that_begins_below_0(self):
        self.assertEqual(with_rows(next_row(0, [1], [-6, 1, 0])), [[3, -5, 1, 9]])

    def test_walk_through_all_that_is_found(self):
        for which, values in ((0, [1]), (0, [0]), (1, [3, 1]), (2, [9]), (3, [4, 0, 9]), (2, [5])):
            given = with_rows(find(which, *values))[0]
            rows = [given[at:at + 3] for at in range(1, len(given), 3)]
            walked = []
            row = [LEAST_VALUE] * 3
            answer = with_rows(next_row(which, values, row))[0]
            while answer != [-4]:
                walked.append(answer[1:])
                answer = with_rows(next_row(which, values, walked[-1]))[0]
            self.assertEqual(walked, rows)

    def test_after_take_and_put(self):
        given = with_rows(take(3, 1, -2), next_row(0, [1], [-5, 1, 9]), put(0, 1, 0), next_row(0, [1], [-5, 1, 9]),
                          next_row(0, [1], [3, 1, -2]))
        self.assertEqual(given, [[1], [3, 3, 1, 9], [1], [3, 0, 1, 0], [3, 3, 1, 9]])

    def test_after_another_search_that_changes_its_order(self):
        given = told(3, [[0]], put(1, 2, 5), put(1, 3, 4), next_row(0, [1], [1, 2, 5]), next_row(0, [1], [1, 3, 4]),
                     search(0, 2), next_row(0, [1], [1, 2, 5]), next_row(0, [1], [1, 3, 4]))
        self.assertEqual(given[2:], [[3, 1, 3, 4], [-4], [1], [-4], [3, 1, 2, 5]])

    def test_wrong_values(self):
        for which, known in enumerate(SEARCHES):
            for values in wrong_rows(*range(len(known))):
                for row in ([0, 0, 0], [0, 0], [GREATEST] * 3):
                    self.assertEqual(with_rows(next_row(which, values, row)), [[-1]], values)

    def test_wrong_rows(self):
        for which, known in enumerate(SEARCHES):
            # These values are found nowhere, but -4 is told behind -1.
            for values in ([1] * len(known), [77] * len(known)):
                for row in wrong_rows(1, 1, 1):
                    self.assertEqual(with_rows(next_row(which, values, row)), [[-1]], row)

    def test_values_and_row_are_not_mixed_up(self):
        given = told(2, [[0]], put(1, 2), next_row(0, [1, 0], [1]), next_row(0, [1], [1, 0]),
                     next_row(0, [], [1, 0, 0]))
        self.assertEqual(given, [[1], [-1], [2, 1, 2], [-1]])

    def test_no_such_search(self):
        for which in NO_SEARCHES:
            given = with_rows(next_row(which, [1], [0, 0, 0]), next_row(which, [], [0, 0, 0]),
                              next_row(which, [GREATEST], [0, 0, 0]), next_row(which, [1], [0, 0]),
                              next_row(which, [LEAST] * 30, [GREATEST] * 30))
            self.assertEqual(given, [[-2]] * 5, which)
        self.assertEqual(told(2, [], next_row(0, [], [1, 2]), next_row(-1, [], [])), [[-2]] * 2)


class TogetherTest(unittest.TestCase):
    def test_behind_as_many_as_place_tells(self):
        """With the empty search, the next one of a row is the one at its place, or behind itself."""
        rows = [[2, 5], [1, 9], [1, -9], [-4, 0], [2, 4]]
        others = [[2, 5], [2, 6], [0, 0], [-4, 0], [-5, 7], [1, 0]]
        for row in others:
            given = ask(begin(2), search(), *[put(*one) for one in rows], place(0, *row), next_row(0, [], row))
            there, ahead = given[-2]
            standing = sorted(rows)[there + ahead:]
            self.assertEqual(given[-1], [2] + standing[0] if standing else [-4])
