"""Promise 1, laid."""

import itertools
import unittest

from callforms import HIGHEST, asks, begins, first_numbers, fixed, laid, rows_up_to_six
from counterrow.shelf import Shelf


class Laid(unittest.TestCase):
    def test_every_row_of_all_things_is_laid(self):
        for things in (1, 2, 3, 4):
            for row in itertools.permutations(range(things)):
                self.assertEqual(first_numbers(begins(things), laid(*row)), [0, 0])

    def test_every_row_that_has_not_each_thing_once_is_refused(self):
        for things in (1, 2, 3, 4):
            for row in rows_up_to_six(things):
                wanted = 0 if row in itertools.permutations(range(things)) else -1
                self.assertEqual(first_numbers(begins(things), laid(*row)), [0, wanted], (things, row))

    def test_a_number_that_is_no_thing_is_refused(self):
        for other in (4, 5, 7, HIGHEST):
            self.assertEqual(first_numbers(begins(4), laid(0, 1, 2, other)), [0, -1])
            self.assertEqual(first_numbers(begins(4), laid(other, 1, 2, 3)), [0, -1])
            self.assertEqual(first_numbers(begins(4), laid(0, 1, 2, 3, other)), [0, -1])

    def test_laid_again_and_again_ahead_of_the_first_asks(self):
        calls = [begins(3), laid(2, 1, 0), laid(1, 0, 2), laid(1, 0, 2), laid(0, 1, 2)]
        self.assertEqual(first_numbers(*calls), [0, 0, 0, 0, 0])

    def test_refused_once_something_was_asked_for(self):
        calls = [begins(2), laid(1, 0), asks(0), laid(1, 0), laid(0, 1), asks(1), laid(0, 1)]
        self.assertEqual(first_numbers(*calls), [0, 0, 1, -4, -4, 2, -4])

    def test_not_each_thing_once_is_told_ahead_of_asked_already(self):
        for row in ((), (0,), (0, 0), (0, 2), (0, 1, 2), (0, 1, 0), (HIGHEST, 0), (0, 1, 0, 1, 0, 1)):
            calls = [begins(2), asks(0), laid(*row), laid(0, 1)]
            self.assertEqual(first_numbers(*calls), [0, 1, -1, -4], row)

    def test_a_refused_asks_does_not_close_laid(self):
        calls = [begins(2), asks(2), laid(1, 0), asks(HIGHEST), laid(0, 1)]
        self.assertEqual(first_numbers(*calls), [0, -2, 0, -2, 0])

    def test_a_refused_laid_leaves_all_as_it_was(self):
        calls = [begins(3), laid(0, 1), asks(2), laid(2, 1, 0), laid(0), fixed(0, 1, 2)]
        calls += [asks(3), asks(2), fixed(0, 1, 2)]
        self.assertEqual(first_numbers(*calls), [0, -1, 1, -4, -1, 3, -2, 2, 6])

    def test_laid_does_not_change_what_there_is(self):
        calls = [begins(3), laid(2, 0, 1), asks(2), asks(3), fixed(0, 1, 2), fixed(2, 0, 1)]
        self.assertEqual(first_numbers(*calls), [0, 0, 1, -2, 3, 1])


class HowTheyLie(unittest.TestCase):
    def test_a_new_shelf(self):
        self.assertEqual(Shelf().row, [0])

    def test_begun_in_the_order_of_their_numbers(self):
        for things in (1, 2, 3, 4):
            shelf = Shelf()
            shelf.begins(things)
            self.assertEqual(shelf.row, list(range(things)))

    def test_laid_as_told(self):
        shelf = Shelf()
        shelf.begins(4)
        shelf.laid([2, 0, 3, 1])
        self.assertEqual(shelf.row, [2, 0, 3, 1])
        shelf.laid([1, 0, 2, 3])
        self.assertEqual(shelf.row, [1, 0, 2, 3])

    def test_the_row_that_was_handed_in_is_not_kept(self):
        shelf = Shelf()
        shelf.begins(2)
        row = [1, 0]
        shelf.laid(row)
        row.append(5)
        self.assertEqual(shelf.row, [1, 0])

    def test_refusals_leave_them_as_they_lay(self):
        shelf = Shelf()
        shelf.begins(3)
        shelf.laid([2, 0, 1])
        self.assertEqual(shelf.laid([0, 1]), [-1])
        self.assertEqual(shelf.begins(5), [-1])
        self.assertEqual(shelf.asks(3), [-2])
        self.assertEqual(shelf.fixed([0]), [-1])
        self.assertEqual(shelf.row, [2, 0, 1])
        shelf.asks(1)
        self.assertEqual(shelf.laid([0, 1, 2]), [-4])
        self.assertEqual(shelf.row, [2, 0, 1])

    def test_asks_and_fixed_move_nothing(self):
        shelf = Shelf()
        shelf.begins(3)
        shelf.laid([2, 0, 1])
        shelf.asks(1)
        shelf.fixed([1, 2, 0])
        self.assertEqual(shelf.row, [2, 0, 1])

    def test_begun_again_they_lie_in_order_again(self):
        shelf = Shelf()
        shelf.begins(3)
        shelf.laid([2, 0, 1])
        shelf.asks(1)
        shelf.begins(3)
        self.assertEqual(shelf.row, [0, 1, 2])
        self.assertEqual(shelf.asked, [])


if __name__ == "__main__":
    unittest.main()
