"""Promise 1, begins."""

import unittest

from callforms import HIGHEST, asks, begins, first_numbers, fixed, laid


class Begins(unittest.TestCase):
    def test_one_to_four_things_are_begun(self):
        for things in (1, 2, 3, 4):
            self.assertEqual(first_numbers(begins(things)), [0])

    def test_other_numbers_of_things_are_refused(self):
        for things in (0, 5, 6, 10, 255, 65536, HIGHEST - 1, HIGHEST):
            self.assertEqual(first_numbers(begins(things)), [-1])

    def test_there_are_just_as_many_things_as_begun(self):
        for things in (1, 2, 3, 4):
            calls = [begins(things), asks(things - 1), asks(things)]
            self.assertEqual(first_numbers(*calls), [0, 1, -2])
            calls = [begins(things), fixed(*range(things)), fixed(*range(things + 1)), fixed(*range(things - 1))]
            self.assertEqual(first_numbers(*calls), [0, 0, -1, -1])

    def test_begins_again_starts_anew(self):
        calls = [begins(3), asks(2), asks(2), fixed(0, 1, 2), begins(3), fixed(0, 1, 2), asks(1), fixed(0, 1, 2)]
        self.assertEqual(first_numbers(*calls), [0, 1, 2, 6, 0, 0, 1, 2])

    def test_begins_again_with_more_and_with_fewer_things(self):
        calls = [begins(2), asks(1), begins(4), asks(3), begins(2), asks(2), asks(1), fixed(1, 0)]
        self.assertEqual(first_numbers(*calls), [0, 1, 0, 1, 0, -2, 1, 1])

    def test_laid_is_open_again_after_begins(self):
        calls = [begins(2), asks(0), laid(1, 0), begins(2), laid(1, 0)]
        self.assertEqual(first_numbers(*calls), [0, 1, -4, 0, 0])

    def test_ten_more_times_after_begins(self):
        ten = [asks(0)] * 10
        calls = [begins(1), *ten, asks(0), begins(1), *ten, asks(0)]
        told = list(range(1, 11))
        self.assertEqual(first_numbers(*calls), [0, *told, -5, 0, *told, -5])

    def test_a_refused_begins_leaves_all_as_it_was(self):
        for things in (0, 5, HIGHEST):
            calls = [begins(3), asks(2), begins(things), fixed(0, 1, 2), asks(3), asks(1)]
            calls += [laid(0, 1, 2), fixed(1, 2, 0)]
            self.assertEqual(first_numbers(*calls), [0, 1, -1, 3, -2, 2, -4, 3])

    def test_a_refused_begins_on_a_new_shelf_leaves_one_thing(self):
        for things in (0, 5, HIGHEST):
            calls = [begins(things), asks(1), fixed(0), laid(0), asks(0), fixed(0)]
            self.assertEqual(first_numbers(*calls), [-1, -2, 0, 0, 1, 1])


class BeforeAnyBegins(unittest.TestCase):
    def test_the_shelf_has_one_thing(self):
        self.assertEqual(first_numbers(asks(0)), [1])
        self.assertEqual(first_numbers(asks(1)), [-2])
        self.assertEqual(first_numbers(laid(0)), [0])
        self.assertEqual(first_numbers(laid(1)), [-1])
        self.assertEqual(first_numbers(laid()), [-1])
        self.assertEqual(first_numbers(laid(0, 1)), [-1])
        self.assertEqual(first_numbers(fixed(0)), [0])
        self.assertEqual(first_numbers(fixed()), [-1])
        self.assertEqual(first_numbers(fixed(0, 1)), [-1])

    def test_nothing_was_asked_for(self):
        calls = [fixed(0), laid(0), asks(0), asks(0), fixed(0), laid(0)]
        self.assertEqual(first_numbers(*calls), [0, 0, 1, 2, 2, -4])


if __name__ == "__main__":
    unittest.main()
