"""The form of what counterrow.shelves.answers takes and gives back."""

import inspect
import unittest

import counterrow.shelves
from callforms import (
    HIGHEST, all_asked, answered, asks, begins, best, fixed, in_one_list, laid, least, rule, shelf_with,
)
from counterrow.shelves import UnknownCall, answers

SOME_CALLS = [
    0, 3, 1, 3, 2, 0, 1, 2, 2, 2, 0, 2, 3, 3, 3, 0, 1, 2, 4, 3, 2, 0, 1, 5, 0, 5, 3, 1, 3, 0, 1, 2, 6, 5, 2, 0, 5,
]
THEIR_ANSWERS = [
    1, 0, 1, 0, 1, 1, 1, 2, 1, -2, 1, 4, 5, 3, 2, 0, 2, 1, 1, -1, 4, 3, 0, 2, 1, 1, -1, 1, -4, 1, 3, 4, 3, 2, 0, 1,
    1, -1,
]


class Form(unittest.TestCase):
    def test_the_function_is_there_as_it_stands(self):
        self.assertEqual(answers.__module__, "counterrow.shelves")
        self.assertEqual(list(inspect.signature(counterrow.shelves.answers).parameters), ["calls"])
        self.assertEqual(answers(calls=[0, 1]), [1, 0])

    def test_each_call_by_its_number(self):
        self.assertEqual(answers([0, 2]), [1, 0])
        self.assertEqual(answers([1, 1, 0]), [1, 0])
        self.assertEqual(answers([2, 0]), [1, 1])
        self.assertEqual(answers([3, 1, 0]), [1, 0])
        self.assertEqual(answers([4]), [3, 0, 1, 0])
        self.assertEqual(answers([5, 0]), [2, 0, 0])
        self.assertEqual(answers([5, 1]), [2, 0, 0])
        self.assertEqual(answers([5, 2]), [2, 0, 0])
        self.assertEqual(answers([6]), [1, 0])

    def test_a_row_that_is_answered_has_a_number_for_each_thing_and_no_count_of_its_own(self):
        self.assertEqual(answers([0, 3, 1, 3, 2, 1, 0, 4]), [1, 0, 1, 0, 5, 0, 6, 0, 1, 2])
        self.assertEqual(answers([0, 3, 1, 3, 2, 1, 0, 5, 1]), [1, 0, 1, 0, 4, 0, 2, 1, 0])
        self.assertEqual(answers([0, 4, 2, 3, 4, 5, 0, 6]), [1, 0, 1, 1, 6, 1, 6, 3, 0, 1, 2, 5, 4, 3, 0, 1, 2, 1, 4])

    def test_each_call_is_as_long_as_told(self):
        self.assertEqual(answers([4, 2, 0]), [3, 0, 1, 0, 1, 1])
        self.assertEqual(answers([6, 2, 0]), [1, 0, 1, 1])
        self.assertEqual(answers([5, 2, 2, 0]), [2, 0, 0, 1, 1])
        self.assertEqual(answers([4, 6, 4, 6, 5, 4, 6]), [3, 0, 1, 0, 1, 0, 3, 0, 1, 0, 1, 0, 1, -1, 1, 0])

    def test_each_answer_has_its_count_ahead(self):
        self.assertEqual(answers(SOME_CALLS), THEIR_ANSWERS)

    def test_refusals_have_their_count_ahead_too(self):
        self.assertEqual(answers([0, 0]), [1, -1])
        self.assertEqual(answers([1, 0]), [1, -1])
        self.assertEqual(answers([2, HIGHEST]), [1, -2])
        self.assertEqual(answers([2, 0, 1, 1, 0]), [1, 1, 1, -4])
        self.assertEqual(answers([2, 0] * 11), in_one_list([[1, time] for time in range(1, 11)]) + [1, -5])
        self.assertEqual(answers([3, 0]), [1, -1])
        self.assertEqual(answers([5, 3]), [1, -1])
        self.assertEqual(answers([0, 4, 5, HIGHEST, 5, 2]), [1, 0, 1, -1, 5, 0, 0, 1, 2, 3])

    def test_rows_of_every_length_are_passed_over_whole(self):
        for length in range(7):
            for number in (1, 3):
                for filler in (0, 1, 2, 3, HIGHEST):
                    calls = [0, 4, number, length] + [filler] * length + [2, 3]
                    self.assertEqual(answers(calls), [1, 0, 1, -1, 1, 1], calls)

    def test_a_row_of_the_calls_own_numbers_is_no_call(self):
        self.assertEqual(answers([3, 6, 2, 0, 2, 0, 2, 0, 2, 0]), [1, -1, 1, 1])
        self.assertEqual(answers([1, 2, 0, 4, 2, 0]), [1, -1, 1, 1])
        self.assertEqual(answers([3, 3, 4, 5, 6, 2, 0]), [1, -1, 1, 1])

    def test_the_answers_are_a_list_of_whole_numbers(self):
        given = answers(SOME_CALLS)
        self.assertIs(type(given), list)
        for number in given:
            self.assertIs(type(number), int)

    def test_another_number_is_not_taken_for_a_call(self):
        with self.assertRaises(UnknownCall):
            answers([7, 0])


class SixtyCalls(unittest.TestCase):
    def test_sixty_calls_of_all_kinds(self):
        piece = [
            begins(3), fixed(2, 1, 0), laid(1, 2, 0), asks(0), asks(2), laid(0, 1, 2),
            fixed(0, 1, 2), fixed(0, 1), asks(3), begins(5), asks(1), fixed(0, 1, 2),
        ]
        wanted = [[0], [0], [0], [1], [2], [-4], [4], [-1], [-2], [-1], [3], [6]]
        calls = piece * 5
        self.assertEqual(len(calls), 60)
        self.assertEqual(answered(*calls), wanted * 5)

    def test_eight_of_best_and_least_at_four_things_and_ten_times(self):
        row = [2, 0, 3, 1]
        asked = [3, 1, 3, 3, 0, 2, 3, 1, 0, 3]
        told = {4: [19, 2, 3, 0, 1, 2], 6: [23]}
        by_rule = [[32, 3, 0, 1, 2], [27, 3, 2, 0, 1], [24, 3, 1, 0, 2], [-1]]
        for eight in ([best()] * 8, [least()] * 8, [best(), least()] * 4, [least()] * 4 + [best()] * 4):
            calls = shelf_with(row, asked)
            wanted = [[0], [0]] + [[time] for time in range(1, 11)]
            for call in eight:
                calls += [call, rule(0), rule(1), rule(2), rule(3), rule(2)]
                wanted += [told[call[0]], *by_rule, by_rule[2]]
            self.assertEqual(len(calls), 60)
            self.assertEqual(answered(*calls), wanted)

    def test_eight_of_best_and_least_first(self):
        calls = [best(), least()] * 4 + [begins(4), *all_asked([0, 1, 2, 3])] + [rule(0), fixed(3, 2, 1, 0)] * 23
        calls.append(begins(1))
        self.assertEqual(len(calls), 60)
        wanted = [[0, 1, 0], [0]] * 4 + [[0], [1], [2], [3], [4]] + [[10, 3, 2, 1, 0], [10]] * 23 + [[0]]
        self.assertEqual(answered(*calls), wanted)

    def test_sixty_of_rule(self):
        for which in (0, 1, 2):
            self.assertEqual(answered(*[rule(which)] * 60), [[0, 0]] * 60)
        self.assertEqual(answered(*[rule(HIGHEST)] * 60), [[-1]] * 60)

    def test_sixty_of_the_longest_calls(self):
        calls = [fixed(*[HIGHEST] * 6)] * 60
        self.assertEqual(answers(in_one_list(calls)), [1, -1] * 60)

    def test_sixty_times_asked(self):
        calls = [asks(0)] * 60
        self.assertEqual(answered(*calls), [[time] for time in range(1, 11)] + [[-5]] * 50)


class NothingChangedNothingKept(unittest.TestCase):
    def test_the_list_handed_in_is_as_it_was(self):
        others = ([1, 1, 0], [3, 6, 5, 4, 3, 2, 1, 0], [0, 5], [2, HIGHEST], [4], [5, 0], [5, 3], [6])
        for calls in (SOME_CALLS, *others):
            handed = list(calls)
            answers(handed)
            self.assertEqual(handed, calls)

    def test_it_is_never_written_to(self):
        class Unwritable(list):
            def refuse(self, *given):
                raise AssertionError("the list handed in was written to")

            append = extend = insert = pop = remove = clear = sort = reverse = refuse
            __setitem__ = __delitem__ = __iadd__ = __imul__ = refuse

        self.assertEqual(answers(Unwritable(SOME_CALLS)), THEIR_ANSWERS)

    def test_what_is_given_back_is_another_list(self):
        handed = list(SOME_CALLS)
        given = answers(handed)
        given.append(0)
        self.assertEqual(handed, SOME_CALLS)
        self.assertEqual(answers(handed), THEIR_ANSWERS)

    def test_two_calls_one_after_the_other_give_the_same(self):
        self.assertEqual(answers(SOME_CALLS), answers(SOME_CALLS))
        for calls in ([2, 0], [2, 0, 3, 1, 0], [1, 1, 0], [0, 4, 2, 3], [4], [5, 0], [5, 3], [6], [0, 4, 2, 3, 4, 6]):
            self.assertEqual(answers(calls), answers(calls))

    def test_a_shelf_is_not_kept_from_one_time_to_the_next(self):
        answers(in_one_list([begins(4), laid(3, 2, 1, 0), asks(3), asks(3), best(), rule(0), rule(2), least()]))
        calls = [laid(0), asks(1), fixed(0), best(), rule(2), least(), asks(0), fixed(0), best(), rule(2), least()]
        wanted = [[0], [-2], [0], [0, 1, 0], [0, 0], [0], [1], [1], [1, 1, 0], [1, 0], [1]]
        self.assertEqual(answered(*calls), wanted)


if __name__ == "__main__":
    unittest.main()
