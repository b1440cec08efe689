"""The largest expressions that are allowed, and the deepest."""

import random
import unittest

from helper import ALIKE, WITHIN, again, ask, ask_within, either, first_line_showing, letter, one, order, padded
from helper import random_code, row, size_of, tree_of, two


def nested_again(letters):
    """Again and again, and in it a letter and the same of the other letters."""
    code = again(letter(letters[-1]))
    for number in reversed(letters[:-1]):
        code = again(order(letter(number), code))
    return code


def widest_again(code):
    """Again and again around every letter of a code without them and around every order and either."""
    wide = []
    place = 0
    while place < len(code):
        step = 2 if code[place] == 1 else 1
        wide += ([4] if code[place] != 0 else []) + code[place:place + step]
        place += step
    return wide


class Largest(unittest.TestCase):
    def largest_pairs(self, count):
        chance = random.Random(7)
        for _ in range(count):
            letters = chance.choice(((2, 3), (2, 3, 4), (2, 3, 4, 5)))
            first = again(random_code(chance, 6, letters))
            second = again(random_code(chance, 3, letters))
            if size_of(tree_of(first)) <= 30:
                yield first, second

    def test_parts_that_change_nothing_change_no_answer(self):
        for first, second in self.largest_pairs(300):
            large_first, large_second = padded(first, 30), padded(second, 30)
            self.assertEqual(size_of(tree_of(large_first)), 30)
            self.assertEqual(size_of(tree_of(large_second)), 30)
            self.assertEqual(ask_within(large_first, large_second), ask_within(first, second))

    def test_again_and_again_within_again_and_again(self):
        first = padded(nested_again([2, 3, 4, 5, 2, 3]), 30)
        second = padded(nested_again([2, 3, 4]), 30)
        # The second has all of the first's lines but those with a 5, which comes only behind 2 3 4.
        self.assertEqual(ask(one(first), two(second), WITHIN), [[0], [0], [0, 4, 2, 3, 4, 5]])
        self.assertEqual(ask_within(padded(nested_again([2, 3, 4]), 30), second), [1])
        self.assertEqual(ask_within(padded(nested_again([4, 2, 4]), 30), second),
                         [0] + self.counted(first_line_showing(nested_again([4, 2, 4]), nested_again([2, 3, 4]), 4)))

    def counted(self, line):
        return [len(line)] + line

    def test_again_and_again_everywhere(self):
        for letters in ((2, 3, 4, 5, 2, 3), (2, 4, 2, 4, 2, 4), (5, 4, 3, 2, 5, 4)):
            first = padded(widest_again(row(*letters)), 30)
            for three in ((2, 3, 4), (2, 4, 5), (3, 4, 2)):
                second = padded(again(either(*[letter(number) for number in three])), 30)
                shown = first_line_showing(first, second, 2)
                self.assertEqual(ask_within(first, second), [1] if shown is None else [0] + self.counted(shown))

    def test_long_lines(self):
        # 0 letters are a number of threes, 5 aren't.
        fives = padded(again(row(2, 2, 2, 2, 2)), 30)
        self.assertEqual(ask_within(fives, padded(again(row(2, 2, 2)), 30)), [0, 5] + [2] * 5)
        # 1 letter is the letter itself, 6 are a number of twos, 11 are neither.
        fives_and_one = order(again(row(2, 2, 2, 2, 2)), letter(2))
        self.assertEqual(ask_within(fives_and_one, either(again(row(2, 2)), letter(2))), [0, 11] + [2] * 11)
        self.assertEqual(ask_within(again(row(*[4] * 6)), again(row(4, 4, 4))), [1])
        self.assertEqual(ask_within(again(row(*[4] * 6)), padded(again(row(4, 4)), 30)), [1])

    def test_the_deepest_codes(self):
        deep_stay = [4] * 29 + [0]
        deep_letter = [4] * 29 + [1, 2]
        self.assertEqual(ask(one(deep_stay), two(deep_stay), WITHIN, ALIKE), [[0], [0], [1], [1]])
        self.assertEqual(ask(one(deep_letter), two(deep_stay), WITHIN, ALIKE), [[0], [0], [0, 1, 2], [0]])
        self.assertEqual(ask(one(deep_letter), two([4, 1, 2]), WITHIN, ALIKE), [[0], [0], [1], [1]])
        left = [2] * 14 + [1, 2] * 3 + [0] * 12
        right = [2, 0] * 12 + [2, 1, 2, 2, 1, 2, 1, 2]
        self.assertEqual(ask(one(left), two(right), WITHIN, ALIKE), [[0], [0], [1], [1]])
        self.assertEqual(ask(one(right), two(left), WITHIN, ALIKE), [[0], [0], [1], [1]])

    def test_forty_calls_about_the_largest(self):
        calls, told = [], []
        for first, second in list(self.largest_pairs(60))[:13]:
            calls += [one(padded(first, 30)), two(padded(second, 30)), WITHIN]
            told += [[0], [0], ask_within(first, second)]
        self.assertEqual(len(calls), 39)
        self.assertEqual(ask(*calls, ALIKE), told + [[-5]])


if __name__ == "__main__":
    unittest.main()
