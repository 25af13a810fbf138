"""Promise 2, as far as it speaks of rule, and what rule answers."""

import unittest

from callforms import (
    HIGHEST, all_asked, answered, asks, begins, fixed, laid, last_answer, lists_of, lists_of_ten, rows_of, rule,
    shelf_with,
)


def place_by_the_words(which, row, thing, times):
    """The place at which the thing is put back, read from the document rule by rule."""
    place = row.index(thing)
    if which == 0:
        return 0
    if which == 1:
        return place if place == 0 else place - 1
    less_often = [at for at in range(len(row)) if times[row[at]] < times[thing]]
    return less_often[0] if less_often and less_often[0] < place else place


def rule_by_the_words(which, row, asked):
    row = list(row)
    times = {thing: 0 for thing in row}
    steps = 0
    for thing in asked:
        steps += 1 + row.index(thing)
        times[thing] += 1
        place = place_by_the_words(which, row, thing, times)
        row.remove(thing)
        row.insert(place, thing)
    return [steps, *row]


def by_each_rule(row, asked):
    return answered(*shelf_with(row, asked), rule(0), rule(1), rule(2))[-3:]


class EveryRule(unittest.TestCase):
    def test_nothing_asked_for_leaves_the_row_that_was_laid(self):
        for things in (1, 2, 3, 4):
            for row in rows_of(things):
                self.assertEqual(by_each_rule(row, []), [[0, *row]] * 3)

    def test_nothing_laid_leaves_the_order_of_their_numbers(self):
        for things in (1, 2, 3, 4):
            for which in (0, 1, 2):
                self.assertEqual(last_answer(begins(things), rule(which)), [0, *range(things)])

    def test_a_new_shelf(self):
        for which in (0, 1, 2):
            self.assertEqual(answered(rule(which), asks(0), rule(which)), [[0, 0], [1], [1, 0]])

    def test_one_thing(self):
        for times in range(11):
            self.assertEqual(by_each_rule([0], [0] * times), [[times, 0]] * 3)

    def test_a_thing_that_is_the_first_already(self):
        for things in (1, 2, 3, 4):
            for row in rows_of(things):
                for times in (1, 2, 10):
                    self.assertEqual(by_each_rule(row, [row[0]] * times), [[times, *row]] * 3)

    def test_each_from_the_same_row_with_the_same_things_asked_for(self):
        self.assertEqual(by_each_rule([2, 0, 1], [1, 1, 0]), [[7, 0, 1, 2], [8, 1, 0, 2], [7, 1, 0, 2]])
        self.assertEqual(by_each_rule([0, 1, 2, 3], [3]), [[4, 3, 0, 1, 2], [4, 0, 1, 3, 2], [4, 3, 0, 1, 2]])
        self.assertEqual(by_each_rule([3, 1, 0, 2], [2, 0]), [[8, 0, 2, 3, 1], [8, 3, 1, 0, 2], [8, 2, 0, 3, 1]])

    def test_the_row_that_was_laid_last(self):
        calls = [begins(3), laid(0, 2, 1), laid(2, 1, 0), asks(1)]
        self.assertEqual(last_answer(*calls, rule(0)), [2, 1, 2, 0])
        self.assertEqual(last_answer(*calls, rule(1)), [2, 1, 2, 0])
        self.assertEqual(last_answer(*calls, rule(2)), [2, 1, 2, 0])

    def test_only_what_was_asked_for_since_begins_counts(self):
        for which in (0, 1, 2):
            calls = [begins(3), laid(2, 1, 0), asks(0), begins(3), rule(which), asks(1), rule(which)]
            self.assertEqual(answered(*calls)[4:], [[0, 0, 1, 2], [1], [2, 1, 0, 2]])

    def test_against_the_words(self):
        for things, longest in ((2, 7), (3, 4), (4, 2)):
            for row in rows_of(things):
                for asked in lists_of(things, longest):
                    wanted = [rule_by_the_words(which, row, asked) for which in (0, 1, 2)]
                    self.assertEqual(by_each_rule(row, asked), wanted, (row, asked))

    def test_ten_times_against_the_words(self):
        for things, how_many in ((2, 200), (3, 100), (4, 60)):
            for row in rows_of(things):
                for asked in lists_of_ten(things, how_many):
                    wanted = [rule_by_the_words(which, row, asked) for which in (0, 1, 2)]
                    self.assertEqual(by_each_rule(row, asked), wanted, (row, asked))


class ToTheFront(unittest.TestCase):
    def test_from_every_place(self):
        self.assertEqual(last_answer(begins(4), asks(0), rule(0)), [1, 0, 1, 2, 3])
        self.assertEqual(last_answer(begins(4), asks(1), rule(0)), [2, 1, 0, 2, 3])
        self.assertEqual(last_answer(begins(4), asks(2), rule(0)), [3, 2, 0, 1, 3])
        self.assertEqual(last_answer(begins(4), asks(3), rule(0)), [4, 3, 0, 1, 2])

    def test_one_after_another(self):
        self.assertEqual(last_answer(begins(3), *all_asked([2, 1, 2]), rule(0)), [8, 2, 1, 0])
        self.assertEqual(last_answer(begins(4), *all_asked([3, 2, 1, 0]), rule(0)), [16, 0, 1, 2, 3])
        self.assertEqual(last_answer(begins(4), *[asks(3)] * 10, rule(0)), [13, 3, 0, 1, 2])


class OnePlaceAhead(unittest.TestCase):
    def test_from_every_place(self):
        self.assertEqual(last_answer(begins(4), asks(0), rule(1)), [1, 0, 1, 2, 3])
        self.assertEqual(last_answer(begins(4), asks(1), rule(1)), [2, 1, 0, 2, 3])
        self.assertEqual(last_answer(begins(4), asks(2), rule(1)), [3, 0, 2, 1, 3])
        self.assertEqual(last_answer(begins(4), asks(3), rule(1)), [4, 0, 1, 3, 2])

    def test_one_after_another(self):
        self.assertEqual(last_answer(begins(3), *all_asked([2, 1, 2]), rule(1)), [9, 0, 2, 1])
        self.assertEqual(last_answer(begins(4), *all_asked([3, 3, 3]), rule(1)), [9, 3, 0, 1, 2])
        self.assertEqual(last_answer(begins(4), *[asks(3)] * 10, rule(1)), [16, 3, 0, 1, 2])
        self.assertEqual(last_answer(begins(2), *all_asked([1, 0] * 5), rule(1)), [20, 0, 1])


class ByHowOften(unittest.TestCase):
    def test_ahead_of_the_first_that_was_asked_for_less_often(self):
        self.assertEqual(last_answer(begins(4), asks(3), rule(2)), [4, 3, 0, 1, 2])
        self.assertEqual(last_answer(begins(4), *all_asked([0, 3]), rule(2)), [5, 0, 3, 1, 2])
        self.assertEqual(last_answer(begins(4), *all_asked([0, 0, 1, 3]), rule(2)), [8, 0, 1, 3, 2])
        self.assertEqual(last_answer(begins(4), *all_asked([0, 0, 1, 3, 3, 3]), rule(2)), [13, 3, 0, 1, 2])

    def test_others_asked_for_as_often_stay_ahead_of_it(self):
        self.assertEqual(last_answer(begins(3), *all_asked([0, 1]), rule(2)), [3, 0, 1, 2])
        self.assertEqual(last_answer(begins(3), *all_asked([0, 2]), rule(2)), [4, 0, 2, 1])
        self.assertEqual(last_answer(begins(3), *all_asked([0, 1, 2]), rule(2)), [6, 0, 1, 2])
        self.assertEqual(last_answer(begins(2), *all_asked([0, 1, 1, 0]), rule(2)), [7, 1, 0])

    def test_none_was_asked_for_less_often(self):
        self.assertEqual(last_answer(begins(3), *all_asked([0, 0, 1, 2]), rule(2)), [7, 0, 1, 2])
        self.assertEqual(last_answer(begins(2), *all_asked([0, 0, 0, 1, 1]), rule(2)), [7, 0, 1])

    def test_only_one_behind_it_was_asked_for_less_often(self):
        self.assertEqual(last_answer(begins(4), *all_asked([0, 1]), rule(2)), [3, 0, 1, 2, 3])
        self.assertEqual(last_answer(begins(3), *all_asked([0, 0, 1]), rule(2)), [4, 0, 1, 2])

    def test_this_time_counts(self):
        self.assertEqual(last_answer(begins(2), asks(1), rule(2)), [2, 1, 0])
        self.assertEqual(last_answer(begins(2), *all_asked([0, 1, 1]), rule(2)), [5, 1, 0])

    def test_later_times_do_not_count_yet(self):
        self.assertEqual(last_answer(begins(2), *all_asked([1, 0, 0]), rule(2)), [6, 0, 1])
        self.assertEqual(last_answer(begins(3), *all_asked([2, 1, 1, 0, 0, 0]), rule(2)), [16, 0, 1, 2])


class RuleRefused(unittest.TestCase):
    def test_above_two(self):
        for which in (3, 4, 5, 6, 10, 255, 65536, HIGHEST - 1, HIGHEST):
            for things in (1, 2, 3, 4):
                for times in (0, 1, 10):
                    calls = [begins(things), *[asks(0)] * times, rule(which)]
                    self.assertEqual(last_answer(*calls), [-1], (which, things, times))

    def test_above_two_on_a_new_shelf(self):
        for which in (3, HIGHEST):
            self.assertEqual(answered(rule(which)), [[-1]])

    def test_two_is_not_refused(self):
        self.assertEqual(answered(rule(2)), [[0, 0]])

    def test_a_refusal_leaves_all_as_it_was(self):
        for which in (3, HIGHEST):
            calls = [
                begins(3), rule(which), laid(2, 1, 0), rule(which), rule(0), asks(0), rule(which), asks(3),
                fixed(0, 1, 2), rule(0), rule(1), rule(2), asks(0), laid(0, 1, 2),
            ]
            wanted = [
                [0], [-1], [0], [-1], [0, 2, 1, 0], [1], [-1], [-2],
                [1], [3, 0, 2, 1], [3, 2, 0, 1], [3, 0, 2, 1], [2], [-4],
            ]
            self.assertEqual(answered(*calls), wanted)


if __name__ == "__main__":
    unittest.main()
