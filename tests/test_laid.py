"""Promise 1, laid."""

import itertools
import unittest

from callforms import (
    HIGHEST, answered, asks, begins, first_numbers, fixed, laid, last_answer, rows_of, rows_up_to_six, rule,
)
from counterrow.shelf import Shelf


class Laid(unittest.TestCase):
    def test_every_row_of_all_things_is_laid(self):
        for things in (1, 2, 3, 4):
            for row in itertools.permutations(range(things)):
                self.assertEqual(first_numbers(begins(things), laid(*row)), [0, 0])

    def test_every_row_that_has_not_each_thing_once_is_refused(self):
        for things in (1, 2, 3, 4):
            for row in rows_up_to_six(things):
                wanted = 0 if row in itertools.permutations(range(things)) else -1
                self.assertEqual(first_numbers(begins(things), laid(*row)), [0, wanted], (things, row))

    def test_a_number_that_is_no_thing_is_refused(self):
        for other in (4, 5, 7, HIGHEST):
            self.assertEqual(first_numbers(begins(4), laid(0, 1, 2, other)), [0, -1])
            self.assertEqual(first_numbers(begins(4), laid(other, 1, 2, 3)), [0, -1])
            self.assertEqual(first_numbers(begins(4), laid(0, 1, 2, 3, other)), [0, -1])

    def test_laid_again_and_again_ahead_of_the_first_asks(self):
        calls = [begins(3), laid(2, 1, 0), laid(1, 0, 2), laid(1, 0, 2), laid(0, 1, 2)]
        self.assertEqual(first_numbers(*calls), [0, 0, 0, 0, 0])

    def test_refused_once_something_was_asked_for(self):
        calls = [begins(2), laid(1, 0), asks(0), laid(1, 0), laid(0, 1), asks(1), laid(0, 1)]
        self.assertEqual(first_numbers(*calls), [0, 0, 1, -4, -4, 2, -4])

    def test_not_each_thing_once_is_told_ahead_of_asked_already(self):
        for row in ((), (0,), (0, 0), (0, 2), (0, 1, 2), (0, 1, 0), (HIGHEST, 0), (0, 1, 0, 1, 0, 1)):
            calls = [begins(2), asks(0), laid(*row), laid(0, 1)]
            self.assertEqual(first_numbers(*calls), [0, 1, -1, -4], row)

    def test_a_refused_asks_does_not_close_laid(self):
        calls = [begins(2), asks(2), laid(1, 0), asks(HIGHEST), laid(0, 1)]
        self.assertEqual(first_numbers(*calls), [0, -2, 0, -2, 0])

    def test_a_refused_laid_leaves_all_as_it_was(self):
        calls = [begins(3), laid(0, 1), asks(2), laid(2, 1, 0), laid(0), fixed(0, 1, 2)]
        calls += [asks(3), asks(2), fixed(0, 1, 2)]
        self.assertEqual(first_numbers(*calls), [0, -1, 1, -4, -1, 3, -2, 2, 6])

    def test_laid_does_not_change_what_there_is(self):
        calls = [begins(3), laid(2, 0, 1), asks(2), asks(3), fixed(0, 1, 2), fixed(2, 0, 1)]
        self.assertEqual(first_numbers(*calls), [0, 0, 1, -2, 3, 1])


class HowTheyLie(unittest.TestCase):
    """While nothing is asked for, a rule answers no steps and the row that was laid."""

    def test_a_new_shelf(self):
        self.assertEqual(last_answer(rule(0)), [0, 0])

    def test_begun_in_the_order_of_their_numbers(self):
        for things in (1, 2, 3, 4):
            self.assertEqual(last_answer(begins(things), rule(0)), [0, *range(things)])

    def test_laid_as_told(self):
        for things in (1, 2, 3, 4):
            for row in rows_of(things):
                self.assertEqual(last_answer(begins(things), laid(*row), rule(0)), [0, *row])

    def test_laid_again_as_told_last(self):
        calls = [begins(4), laid(2, 0, 3, 1), laid(1, 0, 2, 3), rule(0)]
        self.assertEqual(last_answer(*calls), [0, 1, 0, 2, 3])

    def test_the_row_that_was_handed_in_is_not_kept(self):
        shelf = Shelf()
        shelf.begins(2)
        row = [1, 0]
        shelf.laid(row)
        row.append(5)
        self.assertEqual(shelf.rule(0), [0, 1, 0])

    def test_refusals_leave_them_as_they_lay(self):
        for refused in (laid(0, 1), laid(), laid(0, 1, 3), begins(0), begins(5), asks(3), fixed(0), rule(3)):
            calls = [begins(3), laid(2, 0, 1), refused, rule(0)]
            self.assertEqual(answered(*calls)[3], [0, 2, 0, 1], refused)

    def test_refused_once_something_was_asked_for_they_lie_as_they_lay(self):
        calls = [begins(3), laid(2, 0, 1), asks(1), laid(0, 1, 2), rule(1)]
        self.assertEqual(last_answer(*calls), [3, 2, 1, 0])

    def test_asks_and_fixed_move_nothing(self):
        calls = [begins(3), laid(2, 0, 1), asks(2), fixed(1, 2, 0), asks(2), fixed(0, 1, 2), rule(0)]
        self.assertEqual(last_answer(*calls), [2, 2, 0, 1])

    def test_begun_again_they_lie_in_order_again(self):
        calls = [begins(3), laid(2, 0, 1), asks(1), begins(3), rule(0)]
        self.assertEqual(last_answer(*calls), [0, 0, 1, 2])


if __name__ == "__main__":
    unittest.main()
