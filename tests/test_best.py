"""What best answers."""

import math
import unittest

from callforms import (
    all_asked, answered, asks, begins, best, fixed, laid, last_answer, lists_of, lists_of_ten, rows_of, shelf_with,
)


def best_by_trying(things, asked):
    """The fewest steps, how many rows take as few, and the lowest of these, all rows tried one by one."""
    steps = {row: sum(row.index(thing) + 1 for thing in asked) for row in rows_of(things)}
    fewest = min(steps.values())
    as_few = [row for row in steps if steps[row] == fewest]
    return [fewest, len(as_few), *min(as_few)]


class Best(unittest.TestCase):
    def test_nothing_asked_for(self):
        self.assertEqual(last_answer(begins(1), best()), [0, 1, 0])
        self.assertEqual(last_answer(begins(2), best()), [0, 2, 0, 1])
        self.assertEqual(last_answer(begins(3), best()), [0, 6, 0, 1, 2])
        self.assertEqual(last_answer(begins(4), best()), [0, 24, 0, 1, 2, 3])

    def test_a_new_shelf(self):
        self.assertEqual(answered(best(), asks(0), best()), [[0, 1, 0], [1], [1, 1, 0]])

    def test_one_thing(self):
        for times in range(11):
            self.assertEqual(last_answer(begins(1), *[asks(0)] * times, best()), [times, 1, 0])

    def test_one_best_row_alone(self):
        self.assertEqual(last_answer(begins(2), *all_asked([1]), best()), [1, 1, 1, 0])
        self.assertEqual(last_answer(begins(3), *all_asked([2, 1, 2]), best()), [4, 1, 2, 1, 0])
        self.assertEqual(last_answer(begins(4), *all_asked([2, 2, 2, 0, 0, 3]), best()), [10, 1, 2, 0, 3, 1])
        asked = [3, 3, 3, 3, 1, 1, 1, 0, 0, 2]
        self.assertEqual(last_answer(begins(4), *all_asked(asked), best()), [20, 1, 3, 1, 0, 2])

    def test_several_rows_as_good(self):
        self.assertEqual(last_answer(begins(2), *all_asked([1, 0]), best()), [3, 2, 0, 1])
        self.assertEqual(last_answer(begins(3), *all_asked([2]), best()), [1, 2, 2, 0, 1])
        self.assertEqual(last_answer(begins(3), *all_asked([2, 1]), best()), [3, 2, 1, 2, 0])
        self.assertEqual(last_answer(begins(3), *all_asked([2, 1, 0]), best()), [6, 6, 0, 1, 2])
        self.assertEqual(last_answer(begins(4), *all_asked([3]), best()), [1, 6, 3, 0, 1, 2])
        self.assertEqual(last_answer(begins(4), *all_asked([3, 1]), best()), [3, 4, 1, 3, 0, 2])
        self.assertEqual(last_answer(begins(4), *all_asked([3, 1, 3, 1, 2, 0]), best()), [13, 4, 1, 3, 0, 2])

    def test_the_thing_asked_for_most_lies_first(self):
        for things in (1, 2, 3, 4):
            for thing in range(things):
                others = [other for other in range(things) if other != thing]
                wanted = [10, math.factorial(things - 1), thing, *others]
                self.assertEqual(last_answer(begins(things), *[asks(thing)] * 10, best()), wanted)

    def test_against_trying_every_row(self):
        for things, longest in ((1, 10), (2, 8), (3, 5), (4, 4)):
            for asked in lists_of(things, longest):
                given = last_answer(begins(things), *all_asked(asked), best())
                self.assertEqual(given, best_by_trying(things, asked), (things, asked))

    def test_ten_times_against_trying_every_row(self):
        for things in (2, 3, 4):
            for asked in lists_of_ten(things, 300):
                given = last_answer(begins(things), *all_asked(asked), best())
                self.assertEqual(given, best_by_trying(things, asked), (things, asked))

    def test_it_agrees_with_fixed_for_every_row(self):
        for asked in lists_of_ten(4, 40):
            rows = rows_of(4)
            fewest, how_many, *first = last_answer(begins(4), *all_asked(asked), best())
            steps = [last_answer(begins(4), *all_asked(asked), fixed(*row))[0] for row in rows]
            self.assertEqual(min(steps), fewest)
            self.assertEqual(steps.count(fewest), how_many)
            self.assertEqual(rows[steps.index(fewest)], tuple(first))

    def test_whatever_row_was_laid(self):
        for things in (1, 2, 3, 4):
            for asked in lists_of(things, 2) + lists_of_ten(things, 5):
                for row in rows_of(things):
                    given = last_answer(*shelf_with(row, asked), best())
                    self.assertEqual(given, best_by_trying(things, asked), (row, asked))

    def test_whatever_the_order_in_which_it_was_asked_for(self):
        for asked in ([2, 2, 1, 0, 0, 0], [0, 2, 0, 1, 2, 0], [0, 0, 0, 2, 2, 1]):
            self.assertEqual(last_answer(begins(3), *all_asked(asked), best()), [10, 1, 0, 2, 1])

    def test_only_what_was_asked_for_since_begins_counts(self):
        calls = [begins(3), asks(2), asks(2), begins(2), best(), asks(1), best(), begins(4), best()]
        wanted = [[0], [1], [2], [0], [0, 2, 0, 1], [1], [1, 1, 1, 0], [0], [0, 24, 0, 1, 2, 3]]
        self.assertEqual(answered(*calls), wanted)

    def test_refused_calls_count_for_nothing(self):
        calls = [begins(3), asks(1), asks(3), laid(2, 1, 0), begins(5), best()]
        self.assertEqual(last_answer(*calls), [1, 2, 1, 0, 2])
        calls = [begins(2), *[asks(1)] * 10, *[asks(0)] * 10, best()]
        self.assertEqual(last_answer(*calls), [10, 1, 1, 0])


if __name__ == "__main__":
    unittest.main()
