"""Point 1: what one, two and alike refuse, and that nothing is changed then."""

import unittest

from helper import ALIKE, WITHIN, again, ask, either, letter, one, order, padded, row, two

MOST = 4294967295
NO_CODES = [
    [],
    [5], [6], [100], [MOST],
    [1], [1, 0], [1, 1], [1, 6], [1, 7], [1, MOST],
    [2], [2, 0], [2, 1, 2], [2, 0, 1], [3], [3, 0], [3, 1, 2, 1], [4], [4, 4], [4, 1],
    [0, 0], [0, 5], [1, 2, 3], [1, 2, 0], [1, 2, 1, 2], [2, 0, 0, 0], [3, 0, 0, 1, 2], [4, 0, 0], [4, 0, 4],
    [2, 5, 0], [2, 0, 5], [3, 0, MOST], [4, 5], [2, 1, 2, 1, 6], [2, 1, 1, 1, 2],
]


class Form(unittest.TestCase):
    def check(self, code, answer):
        self.assertEqual(ask(one(code)), [[answer]], code)
        self.assertEqual(ask(two(code)), [[answer]], code)

    def test_codes_that_are_none(self):
        for code in NO_CODES:
            self.check(code, -1)

    def test_every_kind_of_code(self):
        for code in [[0], [2, 0, 0], [3, 0, 0], [4, 0], [1, 2], [1, 3], [1, 4], [1, 5], [2, 1, 2, 3, 0, 4, 1, 5]]:
            self.check(code, 0)

    def test_sixty_numbers_are_read_sixty_one_are_not(self):
        self.check([4] * 59 + [0], -5)
        self.check([4] * 60 + [0], -1)
        self.check([4] * 99 + [0], -1)
        self.check([0] * 60, -1)
        self.check([0] * 100, -1)
        self.check([4] * 60, -1)

    def test_the_form_is_told_before_the_size(self):
        self.check([4] * 40, -1)
        self.check([4] * 40 + [0, 0], -1)
        self.check([4] * 40 + [5], -1)
        self.check([4] * 40 + [1, 6], -1)
        self.check(row(2, 2, 2, 2, 2, 2, 2) + [0], -1)
        self.check(row(2, 2, 2, 2, 2, 2, 6), -1)
        self.check(row(2, 2, 2, 2, 2, 2, 2)[:-1], -1)
        self.check(row(*[2] * 21), -1)


class Size(unittest.TestCase):
    def test_thirty_parts_and_thirty_one(self):
        for call in (one, two):
            self.assertEqual(ask(call([4] * 29 + [0])), [[0]])
            self.assertEqual(ask(call([4] * 30 + [0])), [[-5]])
            self.assertEqual(ask(call([2, 0] * 14 + [4, 0])), [[0]])
            self.assertEqual(ask(call([2, 0] * 15 + [0])), [[-5]])
            self.assertEqual(ask(call([2] * 14 + [4] + [0] * 15)), [[0]])
            self.assertEqual(ask(call([3] * 15 + [0] * 16)), [[-5]])

    def test_a_letter_is_one_part_though_it_has_two_numbers(self):
        six = padded(again(row(2, 3, 4, 5, 2, 3)), 30)
        self.assertEqual(len(six), 36)
        self.assertEqual(ask(one(six)), [[0]])
        self.assertEqual(ask(one([4] + six)), [[-5]])
        three = padded(again(row(2, 3, 4)), 30)
        self.assertEqual(len(three), 33)
        self.assertEqual(ask(two(three)), [[0]])
        self.assertEqual(ask(two([4] + three)), [[-5]])

    def test_six_letters_and_seven_for_one(self):
        for code in (row(2, 3, 4, 5, 2, 3), row(2, 2, 2, 2, 2, 2), either(*[letter(5)] * 6)):
            self.assertEqual(ask(one(code)), [[0]])
            self.assertEqual(ask(one(order(code, letter(2)))), [[-5]])
            self.assertEqual(ask(one(either(letter(5), code))), [[-5]])

    def test_three_letters_and_four_for_two(self):
        for code in (row(2, 3, 4), row(2, 2, 2), either(*[letter(5)] * 3), [2, 4, 1, 2, 3, 0, 2, 1, 2, 1, 2]):
            self.assertEqual(ask(two(code)), [[0]])
            self.assertEqual(ask(two(order(code, letter(2)))), [[-5]])
            self.assertEqual(ask(two(either(letter(5), code))), [[-5]])
            self.assertEqual(ask(one(order(code, letter(2)))), [[0]])


class Alike(unittest.TestCase):
    def test_three_letters_and_four_in_the_first(self):
        self.assertEqual(ask(one(row(2, 2, 2)), two(row(2, 2, 2)), ALIKE), [[0], [0], [1]])
        self.assertEqual(ask(one(row(2, 2, 2, 2)), two(row(2, 2, 2)), ALIKE, WITHIN),
                         [[0], [0], [-5], [0, 4, 2, 2, 2, 2]])
        self.assertEqual(ask(one(either(*[letter(2)] * 4)), two(letter(2)), ALIKE, WITHIN), [[0], [0], [-5], [1]])
        self.assertEqual(ask(one(row(2, 2, 2, 2, 2, 2)), ALIKE), [[0], [-5]])

    def test_it_is_the_letters_now_that_count(self):
        four = row(2, 2, 2, 2)
        self.assertEqual(ask(one(four), ALIKE, one([0]), ALIKE, one(four), ALIKE),
                         [[0], [-5], [0], [1], [0], [-5]])

    def test_within_is_never_refused(self):
        self.assertEqual(ask(one(row(2, 2, 2, 2, 2, 2)), two(again(letter(2))), WITHIN), [[0], [0], [1]])


class AllIsAsItWas(unittest.TestCase):
    def test_after_each_refusal(self):
        first, second = row(2, 4), either(letter(4), letter(5))
        refused = [one(code) for code in NO_CODES] + [two(code) for code in NO_CODES]
        refused += [one([4] * 30 + [0]), two([4] * 30 + [0]), one([0] * 61), two([0] * 61)]
        refused += [one(row(*[2] * 7)), two(row(*[2] * 4))]
        for call in refused:
            told = ask(one(first), two(second), call, WITHIN, ALIKE)
            self.assertIn(told[2], ([-1], [-5]))
            self.assertEqual(told[3:], [[0, 2, 2, 4], [0]], call)
            self.assertEqual(ask(call, WITHIN, ALIKE)[1:], [[1], [1]], call)

    def test_after_a_refused_alike(self):
        self.assertEqual(ask(one(row(2, 2, 2, 5)), two(letter(3)), ALIKE, ALIKE, WITHIN),
                         [[0], [0], [-5], [-5], [0, 4, 2, 2, 2, 5]])


if __name__ == "__main__":
    unittest.main()
