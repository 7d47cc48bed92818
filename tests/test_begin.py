import unittest

from tests.helper import (GREATEST, LEAST, apart, ask, begin, find, found, next_row, orders, place, put, search,
                          serves, take)


class BeginTest(unittest.TestCase):
    def test_one_to_seven_columns_are_taken(self):
        for columns in range(1, 8):
            self.assertEqual(ask(begin(columns)), [[0]])

    def test_other_numbers_are_refused(self):
        for columns in (0, 8, 9, -1, -7, 30, GREATEST, LEAST):
            self.assertEqual(ask(begin(columns)), [[-1]], columns)

    def test_has_so_many_columns(self):
        for columns in range(1, 8):
            given = ask(begin(columns), search(columns - 1), search(columns), orders())
            self.assertEqual(given[1:3], [[0], [-1]])
            self.assertEqual(given[3], [1, columns - 1] + list(range(columns - 1)))

    def test_has_no_searches(self):
        self.assertEqual(ask(begin(3), orders(), apart(), serves(0)), [[0], [0], [0], [-2]])

    def test_refused_changes_nothing(self):
        for columns in (0, 8, -1, GREATEST, LEAST):
            given = ask(begin(3), search(1), begin(columns), search(1), search(2), orders(), serves(0), apart())
            self.assertEqual(given, [[0], [0], [-1], [-3], [1], [2, 1, 0, 2, 2, 0, 1], [0, 1], [2, 0, 1]])

    def test_again_gives_one_without_searches(self):
        given = ask(begin(3), search(1), search(2), begin(2), orders(), apart(), serves(0), search(2), search(1))
        self.assertEqual(given, [[0], [0], [1], [0], [0], [0], [-2], [-1], [0]])

    def test_again_with_as_many_columns(self):
        given = ask(begin(3), search(1), begin(3), orders(), search(1), begin(3), search(0), orders())
        self.assertEqual(given, [[0], [0], [0], [0], [0], [0], [0], [1, 0, 1, 2]])

    def test_again_with_more_columns(self):
        given = ask(begin(1), search(1), begin(7), search(6), orders())
        self.assertEqual(given, [[0], [-1], [0], [0], [1, 6, 0, 1, 2, 3, 4, 5]])

    def test_again_after_ten_searches(self):
        ten = [search(*known) for known in
               ([], [0], [1], [2], [3], [0, 1], [0, 2], [0, 3], [1, 2], [1, 3])]
        given = ask(begin(4), *ten, search(2, 3), begin(4), search(2, 3))
        self.assertEqual(given[-3:], [[-6], [0], [0]])

    def test_has_no_rows(self):
        given = ask(begin(2), search(), find(0), next_row(0, [], [-5, -5]), place(0, 5, 5), take(5, 5))
        self.assertEqual(given, [[0], [0], [0], [-4], [0, 0], [0]])

    def test_again_gives_one_without_rows(self):
        for columns in (1, 2, 3):
            row = [4] * columns
            given = ask(begin(2), search(), put(4, 4), put(4, 5), begin(columns), search(), find(0),
                        next_row(0, [], [0] * columns), place(0, *row), take(*row), put(*row), find(0))
            self.assertEqual(given[4:], [[0], [0], [0], [-4], [0, 0], [0], [1], found(row)])

    def test_again_without_searches_to_find_by(self):
        given = ask(begin(2), search(1), put(4, 5), begin(2), find(0, 5), next_row(0, [5], [0, 0]), place(0, 4, 5),
                    put(4, 5), find(0, 5), search(0), find(0, 4))
        self.assertEqual(given[3:], [[0], [-2], [-2], [-2], [1], [-2], [0], found([4, 5])])

    def test_refused_leaves_the_rows(self):
        for columns in (0, 8, -1, GREATEST, LEAST):
            given = ask(begin(2), search(1), put(4, 5), put(3, 5), begin(columns), find(0, 5),
                        next_row(0, [5], [3, 5]), place(0, 4, 5), put(4, 5), take(3, 5), find(0, 5))
            self.assertEqual(given[4:], [[-1], found([3, 5], [4, 5]), [2, 4, 5], [1, 1], [0], [1], found([4, 5])])


class NoRelationTest(unittest.TestCase):
    others = [search(), search(0), search(8), search(1, 0), search(0, 0), search(-1), search(*range(30)),
              orders(), serves(0), serves(-1), serves(GREATEST), serves(LEAST), apart(),
              put(), put(1), put(GREATEST), put(*[LEAST] * 30), take(), take(1, 2), take(*[GREATEST] * 30),
              find(0), find(-1), find(0, 1), find(GREATEST, *[LEAST] * 30),
              next_row(0, [], []), next_row(0, [1], [1, 2]), next_row(LEAST, [GREATEST] * 30, [LEAST] * 30),
              place(0), place(0, 1), place(-1, 1, 2), place(LEAST, *[GREATEST] * 30)]

    def test_ahead_of_begin(self):
        for call in self.others:
            self.assertEqual(ask(call), [[-9]], call)

    def test_all_of_them_ahead_of_begin(self):
        self.assertEqual(ask(*self.others), [[-9]] * len(self.others))

    def test_after_a_refused_begin(self):
        for columns in (0, 8, -1, GREATEST, LEAST):
            given = ask(begin(columns), *self.others)
            self.assertEqual(given, [[-1]] + [[-9]] * len(self.others))

    def test_what_came_ahead_of_begin_is_not_kept(self):
        given = ask(search(0), begin(9), search(1), begin(2), orders(), search(0), search(1))
        self.assertEqual(given, [[-9], [-1], [-9], [0], [0], [0], [1]])
        given = ask(put(5), begin(8), put(6), begin(1), search(), find(0), put(5), find(0))
        self.assertEqual(given, [[-9], [-1], [-9], [0], [0], [0], [1], [1, 5]])

    def test_begin_is_never_answered_so(self):
        self.assertEqual(ask(begin(0), begin(-9), begin(1)), [[-1], [-1], [0]])
