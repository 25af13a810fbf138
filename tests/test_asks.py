"""Promise 1, asks."""

import unittest

from callforms import HIGHEST, asks, begins, first_numbers, fixed, laid


class Asks(unittest.TestCase):
    def test_each_thing_may_be_asked_for(self):
        for things in (1, 2, 3, 4):
            for thing in range(things):
                self.assertEqual(first_numbers(begins(things), asks(thing)), [0, 1])

    def test_every_time_counts_whichever_thing_it_is(self):
        calls = [begins(4), asks(3), asks(0), asks(0), asks(2), asks(1)]
        self.assertEqual(first_numbers(*calls), [0, 1, 2, 3, 4, 5])

    def test_no_such_thing(self):
        for things in (1, 2, 3, 4):
            for thing in (things, things + 1, 5, 10, 65536, HIGHEST):
                self.assertEqual(first_numbers(begins(things), asks(thing)), [0, -2])

    def test_ten_times_and_the_eleventh_is_refused(self):
        for things in (1, 2, 3, 4):
            calls = [begins(things)] + [asks(time % things) for time in range(13)]
            self.assertEqual(first_numbers(*calls), [0, 1, 2, 3, 4, 5, 6, 7, 8, 9, 10, -5, -5, -5])

    def test_no_such_thing_is_told_ahead_of_ten_times_already(self):
        calls = [begins(3)] + [asks(0)] * 10 + [asks(3), asks(HIGHEST), asks(2)]
        self.assertEqual(first_numbers(*calls)[11:], [-2, -2, -5])

    def test_a_refusal_for_no_such_thing_leaves_all_as_it_was(self):
        calls = [begins(3), asks(2), asks(3), fixed(0, 1, 2), asks(HIGHEST), asks(1), fixed(0, 1, 2)]
        self.assertEqual(first_numbers(*calls), [0, 1, -2, 3, -2, 2, 5])

    def test_a_refused_eleventh_time_leaves_all_as_it_was(self):
        calls = [begins(2)] + [asks(1)] * 10 + [fixed(0, 1), asks(1), asks(0), fixed(0, 1), fixed(1, 0), laid(0, 1)]
        self.assertEqual(first_numbers(*calls)[11:], [20, -5, -5, 20, 10, -4])

    def test_refused_times_are_not_counted(self):
        calls = [begins(2)]
        for _ in range(10):
            calls += [asks(2), asks(1)]
        calls.append(asks(1))
        wanted = [0]
        for time in range(1, 11):
            wanted += [-2, time]
        self.assertEqual(first_numbers(*calls), wanted + [-5])


if __name__ == "__main__":
    unittest.main()
