import builtins
import contextlib
import inspect
import io
import sys
import unittest
from unittest import mock

import sortedcopies.relation
from sortedcopies.relation import answers
from tests.helper import apart, ask, begin, find, joined, next_row, orders, place, put, search, serves, take


def refuse(*given, **named):
    raise AssertionError("must not be called")


class Fixed(list):
    """A list that can't be changed, not for a while either."""

    __setitem__ = __delitem__ = __iadd__ = __imul__ = refuse
    append = clear = extend = insert = pop = remove = reverse = sort = refuse


MANY = joined([orders(), begin(0), begin(4), search(0), search(0, 1), search(1), search(4), search(0, 2), orders(),
               serves(1), serves(4), apart(), begin(9), search(), search(*range(30)), orders(), apart(), begin(1),
               orders(), search(0), search(0), serves(0),
               put(7), put(-3), put(7), put(8, 9), find(0, 7), find(0, 1), find(0), find(1, 7), next_row(0, [7], [-3]),
               next_row(0, [7], [7]), next_row(0, [], [7]), next_row(1, [7], [7]), place(0, 7), place(0, 9),
               place(1, 7), take(7), take(7), take(), begin(2), put(1, 2), put(1, -5), put(0, 2), search(1),
               search(0, 1), find(0, 2), next_row(0, [2], [0, 2]), place(0, 1, 2), begin(-1), take(1, 2), find(0, 2)])


class InterfaceTest(unittest.TestCase):
    def test_function(self):
        self.assertEqual(list(inspect.signature(sortedcopies.relation.answers).parameters), ["calls"])

    def test_each_answer_has_its_count_before_it(self):
        self.assertEqual(answers([2]), [1, -9])
        self.assertEqual(answers([0, 8]), [1, -1])
        self.assertEqual(answers([0, 3, 2, 4]), [1, 0, 1, 0, 1, 0])
        self.assertEqual(answers([0, 3, 1, 1, 2, 1, 0, 2, 3, 1, 4, 3, 2]),
                         [1, 0, 1, 0, 1, 1, 4, 1, 2, 0, 1, 2, 0, 0, 2, 1, 0, 1, -2])

    def test_lists_are_read_by_their_counts(self):
        self.assertEqual(answers([1, 0, 1, 1, 2, 1, 2, 0, 7, 0, 7, 1, 3, 0, 0, 7, 1, 2, 4, 5, 2]),
                         [1, -9, 1, -9, 1, -9, 1, 0, 1, -1, 1, 0, 8, 1, 4, 5, 0, 1, 2, 3, 6])

    def test_each_answer_about_rows_has_its_count_before_it(self):
        handed = [0, 2, 1, 1, 1,
                  5, 2, 4, -6, 5, 2, -3, -6, 5, 1, 4,
                  7, 0, 1, -6, 7, 0, 0, 7, 1, 1, -6,
                  8, 0, 1, -6, 2, -3, -6, 8, 0, 1, -6, 2, 4, -6, 8, 2, 0, 0,
                  9, 0, 2, 4, -6, 9, 0, 2, -4, -6, 9, 1, 2, 4, -6,
                  6, 2, 4, -6, 6, 2, 4, -6, 6, 0, 7, 0, 1, -6]
        wanted = [1, 0, 1, 0,
                  1, 1, 1, 1, 1, -1,
                  5, 2, -3, -6, 4, -6, 1, -1, 1, -2,
                  3, 2, 4, -6, 1, -4, 1, -2,
                  2, 1, 1, 2, 0, 0, 1, -2,
                  1, 1, 1, 0, 1, -1, 3, 1, -3, -6]
        self.assertEqual(answers(handed), wanted)

    def test_lists_about_rows_are_read_by_their_counts(self):
        # What looks like a call within a list is none, also where the list is refused.
        handed = [0, 3, 5, 3, 5, 5, 5, 5, 2, 2, 2, 6, 4, 4, 4, 4, 4, 1, 0, 7, 0, 1, 2, 8, 0, 0, 3, 0, 0, 0,
                  8, 7, 2, 8, 8, 1, 2, 9, 0, 2, 9, 9, 9, 0, 3, 6, 6, 6, 7, 0, 0]
        self.assertEqual(answers(handed), [1, 0, 1, 1, 1, -1, 1, -1, 1, 0, 1, -1, 4, 3, 5, 5, 5,
                                           1, -2, 1, -1, 2, 0, 1, 4, 1, 5, 5, 5])

    def test_sixty_calls(self):
        self.assertEqual(ask(*[orders()] * 60), [[-9]] * 60)
        ten = [search(), *[search(column) for column in range(7)], search(0, 1), search(0, 1, 2)]
        looks = [orders(), apart()] + [serves(which) for which in range(11)]
        calls = [begin(7)] + ten + looks * 3 + [begin(2), search(0)] + [serves(0)] * 8
        self.assertEqual(len(calls), 60)
        given = ask(*calls)
        self.assertEqual([len(answer) for answer in given[:11]], [1] * 11)
        self.assertEqual(given[11][0], 7)
        self.assertEqual([len(answer) for answer in given[11:24]], [50, 8] + [2] * 10 + [1])
        self.assertEqual(given[24:37], given[11:24])
        self.assertEqual(given[37:50], given[11:24])
        self.assertEqual(given[50:], [[0], [0]] + [[0, 1]] * 8)

    def test_sixty_calls_about_rows(self):
        rows = [[number % 3, -number, number // 2] for number in range(20)]
        calls = [begin(3), search(2), search(0)] + [put(*row) for row in rows]
        calls += [next_row(1, [0], row) for row in rows] + [place(1, *row) for row in rows[:16]] + [find(1, 0)]
        self.assertEqual(len(calls), 60)
        given = ask(*calls)
        # The order of search 1 is 0, 1, 2; the rows with 0 in column 0 have their greatest numbers first.
        fit = rows[18::-3]
        self.assertEqual(given[59], [7] + joined(fit))
        self.assertEqual(given[23:43], [([3] + rows[number - 3] if number % 3 == 0 and number else [-4])
                                        for number in range(20)])
        self.assertEqual(given[43:59], [[1, sorted(rows).index(row)] for row in rows[:16]])

    def test_longest_list_of_calls(self):
        handed = joined([next_row(0, [0] * 30, [0] * 30)] * 60)
        self.assertEqual(len(handed), 3840)
        self.assertEqual(answers(handed), [1, -9] * 60)
        handed = joined([begin(7)] + [next_row(0, [0] * 30, [0] * 30)] * 59)
        self.assertEqual(answers(handed), [1, 0] + [1, -2] * 59)

    def test_longest_lists(self):
        calls = [begin(7)] + [search(*[6] * 30)] * 58 + [orders()]
        self.assertEqual(ask(*calls), [[0]] + [[-1]] * 58 + [[0]])

    def test_handed_in_is_not_changed(self):
        kept = list(MANY)
        handed = list(MANY)
        answers(handed)
        self.assertEqual(handed, kept)
        self.assertEqual(answers(Fixed(MANY)), answers(handed))

    def test_nothing_is_kept(self):
        first = answers(list(MANY))
        self.assertEqual(answers(list(MANY)), first)
        self.assertEqual(answers([2]), [1, -9])
        first.append(5)
        self.assertEqual(answers(list(MANY)) + [5], first)

    def test_nothing_of_the_file_is_changed(self):
        def shown():
            return {name: repr(value) for name, value in vars(sortedcopies.relation).items() if name.isupper()}
        before = shown()
        answers(list(MANY))
        self.assertEqual(shown(), before)

    def test_nothing_is_printed_read_or_imported(self):
        printed = io.StringIO()
        modules = sorted(sys.modules)
        with contextlib.redirect_stdout(printed), contextlib.redirect_stderr(printed):
            with mock.patch.object(builtins, "open", refuse), mock.patch.object(builtins, "input", refuse):
                with mock.patch.object(builtins, "__import__", refuse), mock.patch.object(sys, "stdin", None):
                    answers(list(MANY))
        self.assertEqual(printed.getvalue(), "")
        self.assertEqual(sorted(sys.modules), modules)
