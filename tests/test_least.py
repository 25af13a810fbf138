"""What least answers."""

import heapq
import unittest

from callforms import (
    all_asked, answered, asks, begins, laid, last_answer, least, lists_of, lists_of_ten, rows_of, shelf_with,
)


def what_can_be_done(row, thing):
    """Each single thing that can be done next: its steps, whether it fetched the thing, and the row behind it."""
    for place in range(len(row) - 1):
        yield 1, False, row[:place] + (row[place + 1], row[place]) + row[place + 2:]
    place = row.index(thing)
    others = row[:place] + row[place + 1:]
    for further_ahead in range(place + 1):
        yield place + 1, True, others[:further_ahead] + (thing,) + others[further_ahead:]


def least_by_search(row, asked):
    """The least at all, by going on from wherever the fewest steps have led to until all is fetched."""
    ways = [(0, 0, tuple(row))]
    been_there = set()
    while True:
        steps, fetched, row = heapq.heappop(ways)
        if fetched == len(asked):
            return steps
        if (fetched, row) not in been_there:
            been_there.add((fetched, row))
            for more, fetches, behind in what_can_be_done(row, asked[fetched]):
                heapq.heappush(ways, (steps + more, fetched + fetches, behind))


class Least(unittest.TestCase):
    def compare(self, row, asked):
        self.assertEqual(last_answer(*shelf_with(row, asked), least()), [least_by_search(row, asked)], (row, asked))

    def test_nothing_asked_for(self):
        for things in (1, 2, 3, 4):
            self.assertEqual(last_answer(begins(things), least()), [0])
            for row in rows_of(things):
                self.assertEqual(last_answer(begins(things), laid(*row), least()), [0])

    def test_a_new_shelf(self):
        self.assertEqual(answered(least(), asks(0), least()), [[0], [1], [1]])

    def test_one_thing(self):
        for times in range(11):
            self.assertEqual(last_answer(begins(1), *[asks(0)] * times, least()), [times])

    def test_one_time_takes_its_steps(self):
        for things in (1, 2, 3, 4):
            for row in rows_of(things):
                for place in range(things):
                    self.assertEqual(last_answer(*shelf_with(row, [row[place]]), least()), [place + 1])

    def test_put_back_at_the_front_for_nothing(self):
        self.assertEqual(last_answer(begins(2), *[asks(1)] * 2, least()), [3])
        self.assertEqual(last_answer(begins(4), *[asks(3)] * 10, least()), [13])

    def test_put_back_where_it_was(self):
        self.assertEqual(last_answer(begins(2), *all_asked([1, 0, 0, 0]), least()), [5])
        self.assertEqual(last_answer(begins(3), *all_asked([2, 0, 1, 0, 1]), least()), [9])

    def test_put_back_further_ahead_but_not_at_the_front(self):
        self.assertEqual(last_answer(begins(3), *all_asked([2, 0, 2, 0]), least()), [7])

    def test_exchanges_of_neighbours_can_be_worth_their_steps(self):
        # Without them it takes 9.
        self.assertEqual(last_answer(begins(3), *all_asked([2, 1, 1, 2]), least()), [8])

    def test_from_the_row_that_was_laid(self):
        self.assertEqual(last_answer(*shelf_with([0, 1, 2], [2, 2]), least()), [4])
        self.assertEqual(last_answer(*shelf_with([0, 2, 1], [2, 2]), least()), [3])
        self.assertEqual(last_answer(*shelf_with([2, 0, 1], [2, 2]), least()), [2])

    def test_against_the_search(self):
        for things, longest in ((1, 10), (2, 7), (3, 4), (4, 2)):
            for row in rows_of(things):
                for asked in lists_of(things, longest):
                    self.compare(row, asked)

    def test_ten_times_against_the_search(self):
        for things, how_many in ((2, 100), (3, 60), (4, 20)):
            for row in rows_of(things):
                for asked in lists_of_ten(things, how_many):
                    self.compare(row, asked)

    def test_four_things_laid_in_order_against_the_search(self):
        for asked in lists_of(4, 5):
            self.compare((0, 1, 2, 3), asked)

    def test_only_what_was_asked_for_since_begins_counts(self):
        calls = [begins(3), laid(2, 1, 0), asks(0), asks(1), begins(3), least(), asks(2), least(), begins(1), least()]
        self.assertEqual(answered(*calls), [[0], [0], [1], [2], [0], [0], [1], [3], [0], [0]])

    def test_refused_calls_count_for_nothing(self):
        calls = [begins(3), asks(1), asks(3), laid(1, 0, 2), begins(5), least()]
        self.assertEqual(last_answer(*calls), [2])
        calls = [begins(2), *[asks(0)] * 10, asks(1), least()]
        self.assertEqual(last_answer(*calls), [10])


if __name__ == "__main__":
    unittest.main()
