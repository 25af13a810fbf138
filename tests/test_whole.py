"""What best, rule and least leave as it was, and what the document says of them all together."""

import itertools
import unittest

from callforms import (
    HIGHEST, answered, asks, begins, best, fixed, laid, last_answer, least, lists_of, lists_of_ten, rows_of, rule,
    shelf_with,
)

THE_THREE = [best(), rule(0), rule(1), rule(2), rule(3), rule(HIGHEST), least()]

CALLS = [
    asks(0), fixed(0), begins(3), fixed(2, 1, 0), laid(1, 2, 0), asks(3), laid(2, 0, 1), laid(0, 1), asks(1),
    laid(0, 1, 2), fixed(0, 1, 2), fixed(1, 0), asks(1), begins(0), asks(0), fixed(0, 1, 2), begins(2), laid(1, 0),
    *[asks(0)] * 10, asks(1), asks(2), fixed(0, 1), fixed(1, 0),
]
THEIR_ANSWERS = [
    [1], [1], [0], [0], [0], [-2], [0], [-1], [1],
    [-4], [2], [-1], [2], [-1], [3], [5], [0], [0],
    *[[time] for time in range(1, 11)], [-5], [-2], [10], [20],
]


class NothingIsMoved(unittest.TestCase):
    def test_the_calls_alone(self):
        self.assertEqual(answered(*CALLS), THEIR_ANSWERS)

    def test_one_of_the_three_between_two_calls(self):
        for between in THE_THREE:
            for at in range(len(CALLS) + 1):
                given = answered(*CALLS[:at], between, *CALLS[at:])
                self.assertEqual(given[:at] + given[at + 1:], THEIR_ANSWERS, (between, at))

    def test_all_of_the_three_between_two_calls_in_any_order(self):
        for at in range(0, len(CALLS) + 1, 3):
            for order in itertools.permutations([best(), rule(0), rule(1), rule(2), least()]):
                given = answered(*CALLS[:at], *order, *CALLS[at:])
                self.assertEqual(given[:at] + given[at + 5:], THEIR_ANSWERS, (order, at))

    def test_the_rules_between_all_calls(self):
        for which in (0, 1, 2, 3, HIGHEST):
            half = len(CALLS) // 2
            for start in (0, half):
                calls = []
                for at, call in enumerate(CALLS):
                    calls += [call, rule(which)] if start <= at < start + half else [call]
                given = answered(*calls)
                kept = [answer for call, answer in zip(calls, given) if call != rule(which)]
                self.assertEqual(kept, THEIR_ANSWERS, which)

    def test_they_answer_the_same_behind_one_another(self):
        for row, asked in (((0,), [0]), ((1, 0), [0, 1, 0]), ((2, 0, 1), [1, 1, 0, 2]), ((3, 1, 0, 2), [2, 0, 2, 1])):
            shelf = shelf_with(row, asked)
            alone = [last_answer(*shelf, call) for call in THE_THREE]
            for order in itertools.permutations(range(len(THE_THREE)), 3):
                given = answered(*shelf, *[THE_THREE[at] for at in order])
                self.assertEqual(given[len(shelf):], [alone[at] for at in order], (row, order))

    def test_the_same_call_again_and_again_answers_the_same(self):
        for row, asked in (((1, 0), []), ((2, 0, 1), [1, 1, 0, 2]), ((3, 1, 0, 2), [2, 0, 2, 1, 1, 3, 0, 0, 2, 1])):
            shelf = shelf_with(row, asked)
            for call in THE_THREE:
                given = answered(*shelf, *[call] * 8)[len(shelf):]
                self.assertEqual(given, [given[0]] * 8, (row, call))

    def test_asked_for_further_as_if_they_had_not_been_called(self):
        row, asked = (3, 1, 0, 2), [2, 0, 2, 1]
        for call in THE_THREE:
            shelf = shelf_with(row, asked[:2])
            further = [asks(thing) for thing in asked[2:]]
            for last in THE_THREE:
                wanted = last_answer(*shelf_with(row, asked), last)
                self.assertEqual(last_answer(*shelf, call, *further, last), wanted, (call, last))
                self.assertEqual(last_answer(*shelf, *further, call, last), wanted, (call, last))

    def test_laid_is_open_behind_them_until_something_is_asked_for(self):
        calls = [begins(2), best(), rule(0), rule(1), rule(2), least(), laid(1, 0), rule(0), asks(0), laid(0, 1)]
        self.assertEqual(answered(*calls)[6:], [[0], [0, 1, 0], [1], [-4]])


class AllTogether(unittest.TestCase):
    def shelves(self):
        for things, longest, how_many in ((1, 3, 1), (2, 6, 20), (3, 3, 10), (4, 2, 5)):
            for row in rows_of(things):
                for asked in lists_of(things, longest) + lists_of_ten(things, how_many):
                    yield row, asked

    def test_no_row_that_stays_is_better_than_the_best(self):
        for things, longest, how_many in ((1, 3, 1), (2, 6, 20), (3, 3, 10), (4, 2, 5)):
            for asked in lists_of(things, longest) + lists_of_ten(things, how_many):
                shelf = shelf_with(range(things), asked)
                rows = [fixed(*row) for row in rows_of(things)]
                fewest, *staying = [answer[0] for answer in answered(*shelf, best(), *rows)[len(shelf):]]
                self.assertEqual(fewest, min(staying), asked)

    def test_to_the_front_is_never_twice_as_bad_as_the_least_at_all(self):
        for row, asked in self.shelves():
            (to_the_front, *_), (fewest,) = answered(*shelf_with(row, asked), rule(0), least())[-2:]
            if len(asked) > 0:
                self.assertLess(to_the_front, 2 * fewest, (row, asked))

    def test_no_rule_and_not_the_row_that_was_laid_takes_less_than_the_least(self):
        for row, asked in self.shelves():
            given = answered(*shelf_with(row, asked), rule(0), rule(1), rule(2), fixed(*row), least())[-5:]
            self.assertEqual(min(answer[0] for answer in given), given[4][0], (row, asked))


if __name__ == "__main__":
    unittest.main()
