"""Promise 2, as far as it speaks of fixed, and what fixed answers."""

import itertools
import unittest

from callforms import HIGHEST, asks, begins, first_numbers, fixed, laid, rows_up_to_six

WRONG_FOR_THREE = (
    (), (0,), (2,), (0, 1), (2, 1), (0, 1, 2, 0), (0, 1, 2, 3), (2, 1, 0, 2, 1), (0, 1, 2, 0, 1, 2),
    (0, 1, 2, 3, 4, 5), (0, 0, 0), (0, 1, 1), (2, 2, 1), (1, 2, 3), (0, 1, 3), (3, 1, 2),
    (0, 1, HIGHEST), (HIGHEST, 0, 1), (HIGHEST,) * 6,
)


class Fixed(unittest.TestCase):
    def test_nothing_asked_for_takes_no_steps(self):
        for things in (1, 2, 3, 4):
            for row in itertools.permutations(range(things)):
                self.assertEqual(first_numbers(begins(things), fixed(*row)), [0, 0])

    def test_a_thing_takes_its_place_in_the_row(self):
        calls = [begins(4), asks(3), fixed(0, 1, 2, 3), fixed(0, 1, 3, 2), fixed(0, 3, 1, 2), fixed(3, 0, 1, 2)]
        self.assertEqual(first_numbers(*calls), [0, 1, 4, 3, 2, 1])

    def test_every_time_counts(self):
        calls = [begins(3), asks(2), asks(2), asks(0), asks(1), fixed(0, 1, 2), fixed(2, 0, 1), fixed(1, 0, 2)]
        self.assertEqual(first_numbers(*calls), [0, 1, 2, 3, 4, 9, 7, 9])

    def test_one_thing(self):
        calls = [begins(1), fixed(0), asks(0), fixed(0)] + [asks(0)] * 9 + [fixed(0)]
        self.assertEqual(first_numbers(*calls)[-1], 10)
        self.assertEqual(first_numbers(*calls)[:4], [0, 0, 1, 1])

    def test_ten_times(self):
        asked = (3, 1, 3, 3, 0, 2, 3, 1, 0, 3)
        calls = [begins(4)] + [asks(thing) for thing in asked]
        calls += [fixed(0, 1, 2, 3), fixed(3, 1, 0, 2), fixed(3, 0, 1, 2), fixed(2, 0, 1, 3)]
        self.assertEqual(first_numbers(*calls)[11:], [29, 19, 19, 31])

    def test_ten_times_the_last(self):
        calls = [begins(4)] + [asks(3)] * 10 + [fixed(0, 1, 2, 3), fixed(3, 2, 1, 0)]
        self.assertEqual(first_numbers(*calls)[11:], [40, 10])

    def test_every_row_for_every_thing(self):
        for things in (1, 2, 3, 4):
            for row in itertools.permutations(range(things)):
                for place in range(things):
                    calls = [begins(things), asks(row[place]), fixed(*row)]
                    self.assertEqual(first_numbers(*calls), [0, 1, place + 1])

    def test_the_row_that_was_laid_makes_no_difference(self):
        for row in itertools.permutations(range(3)):
            calls = [begins(3), laid(*row), asks(2), asks(0), asks(2), fixed(0, 1, 2), fixed(2, 0, 1)]
            self.assertEqual(first_numbers(*calls), [0, 0, 1, 2, 3, 7, 4])

    def test_nothing_is_moved_by_it(self):
        calls = [begins(2), fixed(1, 0), laid(1, 0), asks(1), fixed(0, 1), fixed(1, 0), fixed(0, 1)]
        calls += [asks(0), fixed(0, 1)]
        self.assertEqual(first_numbers(*calls), [0, 0, 0, 1, 2, 1, 2, 2, 3])


class FixedRefused(unittest.TestCase):
    def test_every_row_that_has_not_each_thing_once(self):
        for things in (1, 2, 3, 4):
            for row in rows_up_to_six(things):
                wanted = 0 if row in itertools.permutations(range(things)) else -1
                self.assertEqual(first_numbers(begins(things), fixed(*row)), [0, wanted], (things, row))

    def test_wrong_rows_with_nothing_asked_for(self):
        for row in WRONG_FOR_THREE:
            self.assertEqual(first_numbers(begins(3), fixed(*row)), [0, -1], row)

    def test_wrong_rows_after_some_times_and_after_ten(self):
        for times in (1, 4, 10):
            for row in WRONG_FOR_THREE:
                calls = [begins(3)] + [asks(0)] * times + [fixed(*row)]
                self.assertEqual(first_numbers(*calls)[-1], -1, (times, row))

    def test_a_row_of_four_with_numbers_that_are_no_things(self):
        for other in (4, 5, HIGHEST):
            calls = [begins(4), asks(0), fixed(0, 1, 2, other), fixed(other, 1, 2, 3), fixed(0, 1, 2, 3, other)]
            self.assertEqual(first_numbers(*calls), [0, 1, -1, -1, -1])

    def test_a_refusal_leaves_all_as_it_was(self):
        for row in WRONG_FOR_THREE:
            calls = [begins(3), fixed(*row), laid(2, 1, 0), asks(2), fixed(*row), asks(1), fixed(0, 1, 2), asks(3)]
            self.assertEqual(first_numbers(*calls), [0, -1, 0, 1, -1, 2, 5, -2], row)


if __name__ == "__main__":
    unittest.main()
