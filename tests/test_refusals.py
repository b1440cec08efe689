"""Points 1 and 2: what is refused, and that nothing is changed then."""

import unittest

from helper import ALIKE, SHORTEST, SWAP, WITHIN, again, ask, either, leads, letter, one, order, padded, row
from helper import straight, two
from withinany.machines import machine_that_leads_nowhere
from withinany.search import shortest_line
from withinany.steps import Questions, answer_or_refusal

MOST = 4294967295
NO_CODES = [
    [],
    [5], [6], [100], [MOST],
    [1], [1, 0], [1, 1], [1, 6], [1, 7], [1, MOST],
    [2], [2, 0], [2, 1, 2], [2, 0, 1], [3], [3, 0], [3, 1, 2, 1], [4], [4, 4], [4, 1],
    [0, 0], [0, 5], [1, 2, 3], [1, 2, 0], [1, 2, 1, 2], [2, 0, 0, 0], [3, 0, 0, 1, 2], [4, 0, 0], [4, 0, 4],
    [2, 5, 0], [2, 0, 5], [3, 0, MOST], [4, 5], [2, 1, 2, 1, 6], [2, 1, 1, 1, 2],
]


class Form(unittest.TestCase):
    def check(self, code, answer):
        self.assertEqual(ask(one(code)), [[answer]], code)
        self.assertEqual(ask(two(code)), [[answer]], code)

    def test_codes_that_are_none(self):
        for code in NO_CODES:
            self.check(code, -1)

    def test_every_kind_of_code(self):
        for code in [[0], [2, 0, 0], [3, 0, 0], [4, 0], [1, 2], [1, 3], [1, 4], [1, 5], [2, 1, 2, 3, 0, 4, 1, 5]]:
            self.check(code, 0)

    def test_sixty_numbers_are_read_sixty_one_are_not(self):
        self.check([4] * 59 + [0], -5)
        self.check([4] * 60 + [0], -1)
        self.check([4] * 99 + [0], -1)
        self.check([0] * 60, -1)
        self.check([0] * 100, -1)
        self.check([4] * 60, -1)

    def test_the_form_is_told_before_the_size(self):
        self.check([4] * 40, -1)
        self.check([4] * 40 + [0, 0], -1)
        self.check([4] * 40 + [5], -1)
        self.check([4] * 40 + [1, 6], -1)
        self.check(row(2, 2, 2, 2, 2, 2, 2) + [0], -1)
        self.check(row(2, 2, 2, 2, 2, 2, 6), -1)
        self.check(row(2, 2, 2, 2, 2, 2, 2)[:-1], -1)
        self.check(row(*[2] * 21), -1)


class Size(unittest.TestCase):
    def test_thirty_parts_and_thirty_one(self):
        for call in (one, two):
            self.assertEqual(ask(call([4] * 29 + [0])), [[0]])
            self.assertEqual(ask(call([4] * 30 + [0])), [[-5]])
            self.assertEqual(ask(call([2, 0] * 14 + [4, 0])), [[0]])
            self.assertEqual(ask(call([2, 0] * 15 + [0])), [[-5]])
            self.assertEqual(ask(call([2] * 14 + [4] + [0] * 15)), [[0]])
            self.assertEqual(ask(call([3] * 15 + [0] * 16)), [[-5]])

    def test_a_letter_is_one_part_though_it_has_two_numbers(self):
        six = padded(again(row(2, 3, 4, 5, 2, 3)), 30)
        self.assertEqual(len(six), 36)
        self.assertEqual(ask(one(six)), [[0]])
        self.assertEqual(ask(one([4] + six)), [[-5]])
        three = padded(again(row(2, 3, 4)), 30)
        self.assertEqual(len(three), 33)
        self.assertEqual(ask(two(three)), [[0]])
        self.assertEqual(ask(two([4] + three)), [[-5]])

    def test_six_letters_and_seven_for_one(self):
        for code in (row(2, 3, 4, 5, 2, 3), row(2, 2, 2, 2, 2, 2), either(*[letter(5)] * 6)):
            self.assertEqual(ask(one(code)), [[0]])
            self.assertEqual(ask(one(order(code, letter(2)))), [[-5]])
            self.assertEqual(ask(one(either(letter(5), code))), [[-5]])

    def test_three_letters_and_four_for_two(self):
        for code in (row(2, 3, 4), row(2, 2, 2), either(*[letter(5)] * 3), [2, 4, 1, 2, 3, 0, 2, 1, 2, 1, 2]):
            self.assertEqual(ask(two(code)), [[0]])
            self.assertEqual(ask(two(order(code, letter(2)))), [[-5]])
            self.assertEqual(ask(two(either(letter(5), code))), [[-5]])
            self.assertEqual(ask(one(order(code, letter(2)))), [[0]])


class Alike(unittest.TestCase):
    def test_three_letters_and_four_in_the_first(self):
        self.assertEqual(ask(one(row(2, 2, 2)), two(row(2, 2, 2)), ALIKE), [[0], [0], [1]])
        self.assertEqual(ask(one(row(2, 2, 2, 2)), two(row(2, 2, 2)), ALIKE, WITHIN),
                         [[0], [0], [-5], [0, 4, 2, 2, 2, 2]])
        self.assertEqual(ask(one(either(*[letter(2)] * 4)), two(letter(2)), ALIKE, WITHIN), [[0], [0], [-5], [1]])
        self.assertEqual(ask(one(row(2, 2, 2, 2, 2, 2)), ALIKE), [[0], [-5]])

    def test_it_is_the_letters_now_that_count(self):
        four = row(2, 2, 2, 2)
        self.assertEqual(ask(one(four), ALIKE, one([0]), ALIKE, one(four), ALIKE),
                         [[0], [-5], [0], [1], [0], [-5]])

    def test_within_is_never_refused(self):
        self.assertEqual(ask(one(row(2, 2, 2, 2, 2, 2)), two(again(letter(2))), WITHIN), [[0], [0], [1]])


class Swap(unittest.TestCase):
    def test_three_letters_and_four_in_the_first(self):
        for three in (row(2, 3, 4), row(2, 2, 2), either(*[letter(5)] * 3), padded(again(row(2, 3, 4)), 30)):
            self.assertEqual(ask(one(three), SWAP), [[0], [0]])
        for four in (row(2, 2, 2, 2), either(*[letter(5)] * 4), padded(again(row(2, 3, 4, 5)), 30)):
            self.assertEqual(ask(one(four), SWAP), [[0], [-5]])
        for letters in ([2] * 5, [2] * 6):
            self.assertEqual(ask(one(row(*letters)), SWAP), [[0], [-5]])

    def test_the_size_is_not_what_counts(self):
        self.assertEqual(ask(one([4] * 29 + [0]), two([4] * 29 + [1, 2]), SWAP, SWAP), [[0], [0], [0], [0]])

    def test_it_is_the_letters_now_that_count(self):
        four, three = row(2, 2, 2, 2), row(3, 3, 3)
        self.assertEqual(ask(one(four), two(three), SWAP, one(letter(2)), SWAP, SHORTEST, one(four), SWAP, SHORTEST),
                         [[0], [0], [-5], [0], [0], [3, 3, 3, 3], [0], [-5], [4, 2, 2, 2, 2]])

    def test_one_and_two_are_held_to_their_own_sizes_as_before(self):
        six, seven = row(*[2] * 6), row(*[2] * 7)
        three, four = row(*[4] * 3), row(*[4] * 4)
        told = ask(one(three), two(letter(5)), SWAP, two(four), two(three), one(seven), one(six), SWAP, SHORTEST,
                   two(six), two(four), straight([4, 4, 4]))
        self.assertEqual(told, [[0], [0], [0], [-5], [0], [-5], [0], [-5], [6] + [2] * 6, [-5], [-5], [1, 0]])
        deep, deeper = [4] * 29 + [0], [4] * 30 + [0]
        self.assertEqual(ask(SWAP, one(deep), one(deeper), two(deep), two(deeper)), [[0], [0], [-5], [0], [-5]])


class Letters(unittest.TestCase):
    def check(self, letters, refused):
        second = again(either(letter(2), letter(5)))
        first = again(letter(2))
        told = ask(one(first), two(second), leads(letters), straight(letters), leads([]))[2:]
        right = [[1], [1, 0 if 5 in letters else 1], [1]]
        self.assertEqual(told, [[-1], [-1], [1]] if refused else right, letters)

    def test_twenty_and_twenty_one(self):
        for count in (0, 1, 19, 20):
            self.check([2] * count, False)
            self.check([5] * count, False)
        for count in (21, 22, 59, 60, 61, 99, 100):
            self.check([2] * count, True)

    def test_a_hundred_that_are_no_letters_either(self):
        for number in (0, 1, 6, MOST):
            self.check([number] * 100, True)

    def test_what_is_a_letter_and_what_is_none(self):
        for number in (2, 5):
            for count in (0, 1, 19):
                self.check([number] + [2] * count, False)
                self.check([2] * count + [number], False)
        for number in (0, 1, 6, 7, 10, 100, MOST - 1, MOST):
            for count in (0, 1, 2, 19, 20):
                self.check([number] + [2] * count, True)
                self.check([2] * count + [number], True)
            self.check([2] * 10 + [number] + [2] * 9, True)

    def test_it_is_refused_though_neither_gets_there(self):
        self.assertEqual(ask(leads([4, 6]), straight([4, 6]), leads([4] * 21), straight([4] * 21)), [[-1]] * 4)
        self.assertEqual(ask(leads([4, 5]), straight([4, 3]), leads([4] * 20), straight([4] * 20)),
                         [[0], [0, 0], [0], [0, 0]])


class Shortest(unittest.TestCase):
    def test_there_is_none(self):
        # No code tells an expression that leads nowhere, so it is put there by hand.
        self.assertIsNone(shortest_line(machine_that_leads_nowhere()))
        questions = Questions()
        questions.first = machine_that_leads_nowhere()
        self.assertEqual(answer_or_refusal(questions, 6, []), [-3])
        self.assertEqual(answer_or_refusal(questions, 5, []), [1, 0])
        self.assertEqual(answer_or_refusal(questions, 7, []), [0])
        self.assertEqual(answer_or_refusal(questions, 6, []), [0])

    def test_it_is_not_refused_for_the_largest(self):
        self.assertEqual(ask(one(row(*[5] * 6)), SHORTEST), [[0], [6] + [5] * 6])


class AllIsAsItWas(unittest.TestCase):
    def test_after_each_refusal_of_points_1_and_2(self):
        asked = [WITHIN, straight([2, 4, 2, 4]), straight([5]), leads([5]), leads([2, 4, 2, 4]), SHORTEST]
        told = [[0, 4, 2, 4, 2, 4], [0, 1], [1, 0], [1], [0], [4, 2, 4, 2, 4]]
        refused = [one([5]), two([5]), one(row(*[2] * 7)), two(row(*[2] * 4)), ALIKE, SWAP, leads([2] * 21)]
        refused += [straight([2] * 21), leads([2] * 100), straight([2] * 100), leads([1]), straight([1])]
        refused += [leads([2, 6]), straight([2, 6]), leads([0, 2]), straight([MOST])]
        for call in refused:
            answered = ask(one(row(2, 4, 2, 4)), two(letter(5)), call, *asked)
            self.assertIn(answered[2], ([-1], [-5]), call)
            self.assertEqual(answered[3:], told, call)
        answered = ask(one(row(2, 4, 2, 4)), two(letter(5)), *refused, *asked)
        self.assertEqual(answered[-len(asked):], told)

    def test_after_each_refusal(self):
        first, second = row(2, 4), either(letter(4), letter(5))
        refused = [one(code) for code in NO_CODES] + [two(code) for code in NO_CODES]
        refused += [one([4] * 30 + [0]), two([4] * 30 + [0]), one([0] * 61), two([0] * 61)]
        refused += [one(row(*[2] * 7)), two(row(*[2] * 4))]
        for call in refused:
            told = ask(one(first), two(second), call, WITHIN, ALIKE)
            self.assertIn(told[2], ([-1], [-5]))
            self.assertEqual(told[3:], [[0, 2, 2, 4], [0]], call)
            self.assertEqual(ask(call, WITHIN, ALIKE)[1:], [[1], [1]], call)

    def test_after_a_refused_alike(self):
        self.assertEqual(ask(one(row(2, 2, 2, 5)), two(letter(3)), ALIKE, ALIKE, WITHIN),
                         [[0], [0], [-5], [-5], [0, 4, 2, 2, 2, 5]])


if __name__ == "__main__":
    unittest.main()
