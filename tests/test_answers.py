"""withinany.steps.answers: how calls are handed in, what is given back, and what holds of it as a whole."""

import unittest

from helper import ALIKE, SHORTEST, SWAP, WITHIN, again, ask, either, leads, letter, one, order, row, straight, two
from withinany.steps import answers


class Untouchable(list):
    """A list that fails where it is changed, be it for a while."""

    def fail(self, *args, **kwargs):
        raise AssertionError("what is handed in was changed")

    append = extend = insert = pop = remove = clear = sort = reverse = fail
    __setitem__ = __delitem__ = __iadd__ = __imul__ = fail


class GivenBack(unittest.TestCase):
    def test_counts_and_numbers(self):
        self.assertEqual(answers([2]), [1, 1])
        self.assertEqual(answers([3]), [1, 1])
        self.assertEqual(answers([0, 1, 0]), [1, 0])
        self.assertEqual(answers([0, 0]), [1, -1])
        self.assertEqual(answers([1, 0, 2]), [1, -1, 1, 1])
        self.assertEqual(answers([1, 2, 1, 2, 2]), [1, 0, 2, 0, 0])
        self.assertEqual(answers([0, 2, 1, 5, 2, 3]), [1, 0, 3, 0, 1, 5, 1, 0])
        self.assertEqual(answers([0, 5, 2, 1, 2, 1, 5, 2]), [1, 0, 4, 0, 2, 2, 5])
        self.assertEqual(answers([1, 31] + [4] * 30 + [0]), [1, -5])

    def test_counts_and_numbers_of_the_calls_about_lines(self):
        self.assertEqual(answers([4, 0]), [1, 1])
        self.assertEqual(answers([5, 0]), [2, 1, 1])
        self.assertEqual(answers([6]), [1, 0])
        self.assertEqual(answers([7]), [1, 0])
        self.assertEqual(answers([4, 1, 2, 5, 1, 2]), [1, 0, 2, 0, 0])
        self.assertEqual(answers([4, 1, 1, 5, 1, 1]), [1, -1, 1, -1])
        self.assertEqual(answers([0, 5, 2, 1, 2, 1, 5, 6, 7, 6]), [1, 0, 3, 2, 2, 5, 1, 0, 1, 0])
        self.assertEqual(answers([0, 2, 1, 5, 5, 1, 5, 7, 5, 1, 5]), [1, 0, 2, 0, 1, 1, 0, 2, 1, 0])
        self.assertEqual(answers([0, 8, 2, 1, 2, 2, 1, 2, 1, 2, 7]), [1, 0, 1, 0])
        self.assertEqual(answers([0, 11, 2, 1, 2, 2, 1, 2, 2, 1, 2, 1, 2, 7]), [1, 0, 1, -5])

    def test_numbers_in_a_row_are_no_calls(self):
        self.assertEqual(answers([4, 3, 2, 3, 4, 6]), [1, 0, 1, 0])
        self.assertEqual(answers([5, 4, 2, 3, 4, 5, 6, 7]), [2, 0, 0, 1, 0, 1, 0])
        self.assertEqual(answers([4, 2, 7, 7, 5, 2, 6, 6, 6]), [1, -1, 1, -1, 1, 0])

    def test_the_case_of_the_document_on_a_line(self):
        self.assertEqual(answers([1, 8, 2, 1, 2, 2, 1, 3, 1, 2, 4, 1, 2, 5, 1, 2]), [1, 0, 1, 1, 2, 0, 0])

    def test_the_case_of_the_document(self):
        self.assertEqual(answers([0, 2, 1, 2, 1, 8, 2, 1, 2, 2, 1, 3, 1, 2, 2, 3]), [1, 0, 1, 0, 1, 1, 1, 0])

    def test_whole_numbers_in_a_list(self):
        told = answers(one(row(2, 2)) + two(letter(2)) + WITHIN + ALIKE + one([]) + two(again(letter(2))) + WITHIN)
        told += answers(one(row(2, 2)) + two(letter(2)) + leads([2]) + straight([2, 2]) + straight([2]) + leads([3])
                        + leads([1]) + straight([6]) + SHORTEST + SWAP + SHORTEST)
        self.assertIs(type(told), list)
        self.assertEqual({type(number) for number in told}, {int})

    def test_a_row_of_a_hundred_numbers_is_passed_over_whole(self):
        self.assertEqual(answers([0, 100] + [2] * 100 + [2]), [1, -1, 1, 1])
        self.assertEqual(answers([1, 100] + [4294967295] * 100 + [2]), [1, -1, 1, 1])
        self.assertEqual(answers([4, 100] + [7] * 100 + [6]), [1, -1, 1, 0])
        self.assertEqual(answers([5, 100] + [4294967295] * 100 + [4, 0]), [1, -1, 1, 1])
        self.assertEqual(answers([4, 100] + [2] * 100 + [5, 100] + [2] * 100), [1, -1, 1, -1])

    def test_forty_calls(self):
        self.assertEqual(answers([2, 3] * 20), [1, 1] * 40)
        self.assertEqual(answers([4, 0] * 40), [1, 1] * 40)
        self.assertEqual(answers([7, 6] * 20), [1, 0] * 40)
        # 39 swaps are one.
        self.assertEqual(answers([0, 2, 1, 2] + [7] * 38 + [6]), [1, 0] + [1, 0] * 38 + [2, 1, 2])
        self.assertEqual(answers([0, 2, 1, 2] + [7] * 37 + [6]), [1, 0] + [1, 0] * 37 + [1, 0])

    def test_forty_calls_with_rows_of_a_hundred(self):
        self.assertEqual(answers(([4, 100] + [2] * 100 + [5, 100] + [3] * 100) * 20), [1, -1] * 40)


class OneObject(unittest.TestCase):
    def test_each_call_builds_on_the_ones_before(self):
        self.assertEqual(
            ask(WITHIN, one(letter(2)), WITHIN, two(again(letter(2))), WITHIN, ALIKE, one(again(letter(2))), ALIKE,
                two(letter(4)), WITHIN, one(letter(4)), WITHIN, ALIKE, one([9]), ALIKE, two([0]), WITHIN),
            [[1], [0], [0, 1, 2], [0], [1], [0], [0], [1],
             [0], [0, 0], [0], [1], [1], [-1], [1], [0], [0, 1, 4]])

    def test_asking_changes_nothing(self):
        asked = ask(one(either(row(2, 5), row(2, 4))), two(letter(3)), WITHIN, WITHIN, ALIKE, WITHIN)
        self.assertEqual(asked[2:], [[0, 2, 2, 4], [0, 2, 2, 4], [-5], [0, 2, 2, 4]])

    def test_the_last_one_and_the_last_two_hold(self):
        self.assertEqual(ask(one(letter(2)), one(letter(3)), two(letter(2)), two(letter(4)), WITHIN)[4], [0, 1, 3])

    def test_each_list_has_a_new_object(self):
        calls = one(order(letter(2), letter(4))) + two(letter(2)) + WITHIN
        self.assertEqual(answers(calls), [1, 0, 1, 0, 4, 0, 2, 2, 4])
        self.assertEqual(answers(WITHIN + ALIKE), [1, 1, 1, 1])
        self.assertEqual(answers(two(letter(3)) + WITHIN), [1, 0, 2, 0, 0])
        self.assertEqual(answers(calls), [1, 0, 1, 0, 4, 0, 2, 2, 4])

    def test_nothing_is_left_of_a_swap_or_of_a_line(self):
        calls = one(row(2, 4)) + two(letter(5)) + SWAP + SHORTEST + straight([2, 4]) + leads([2, 4])
        told = [1, 0, 1, 0, 1, 0, 2, 1, 5, 2, 1, 0, 1, 1]
        for _ in range(3):
            self.assertEqual(answers(calls), told)
            self.assertEqual(answers(SHORTEST + leads([]) + straight([2])), [1, 0, 1, 1, 2, 0, 0])
            self.assertEqual(answers(two(row(2, 4)) + straight([2, 4]) + SHORTEST), [1, 0, 2, 1, 0, 1, 0])

    def test_what_is_given_back_is_new(self):
        told = answers(WITHIN)
        told.append(7)
        self.assertEqual(answers(WITHIN), [1, 1])


class HandedIn(unittest.TestCase):
    def test_it_is_not_changed(self):
        numbers = one(row(2, 2, 5)) + two(again(letter(2))) + WITHIN + ALIKE + one([7, 7]) + two([4] * 61) + WITHIN
        numbers += leads([2, 2]) + straight([2, 2, 5]) + leads([1]) + straight([2] * 21) + SHORTEST + SWAP + SHORTEST
        calls = Untouchable(numbers)
        told = answers(calls)
        self.assertEqual(list(calls), numbers)
        self.assertEqual(told, answers(numbers))


if __name__ == "__main__":
    unittest.main()
