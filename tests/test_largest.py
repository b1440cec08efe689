"""The largest expressions that are allowed, and the deepest."""

import random
import unittest

from helper import ALIKE, SHORTEST, SWAP, WITHIN, again, ask, ask_leads, ask_shortest, ask_straight, ask_within
from helper import either, first_line_showing, first_straight_line, leads, leads_along, leads_straight, letter, one
from helper import order, padded, random_code, row, size_of, straight, tree_of, two


def nested_again(letters):
    """Again and again, and in it a letter and the same of the other letters."""
    code = again(letter(letters[-1]))
    for number in reversed(letters[:-1]):
        code = again(order(letter(number), code))
    return code


def widest_again(code):
    """Again and again around every letter of a code without them and around every order and either."""
    wide = []
    place = 0
    while place < len(code):
        step = 2 if code[place] == 1 else 1
        wide += ([4] if code[place] != 0 else []) + code[place:place + step]
        place += step
    return wide


def random_line(chance, code, letters, length):
    """A line of so many letters: the code's own over and over, or any, or one alone."""
    own = [number for at, number in enumerate(code) if at > 0 and code[at - 1] == 1]
    freely = [chance.choice(letters) for _ in range(length)]
    return chance.choice((own * 20, own * 20, freely, [letters[0]] * length))[:length]


def random_second(chance, letters):
    """Three letters; often such that it leads along lines along which it doesn't lead straight."""
    step = letters[0]
    back = {2: 3, 3: 2, 4: 5, 5: 4}[step]
    return chance.choice((
        again(random_code(chance, 3, letters)),
        again(random_code(chance, 3, letters)),
        again(row(step, back, step)),
        again(again(either(row(step, step), letter(back)))),
        again(order(again(letter(step)), row(back, step))),
    ))


class LongestLines(unittest.TestCase):
    def test_again_and_again_within_again_and_again(self):
        second = padded(nested_again([2, 3, 4]), 30)
        self.assertEqual(size_of(tree_of(second)), 30)
        for line in ([2] * 20, [2, 3] * 10, [2, 3, 4, 4] * 5, [2, 3, 4, 2, 2] * 4):
            self.assertEqual(ask(two(second), leads(line), straight(line)), [[0], [1], [1, 0]])
        for line in ([2] * 19 + [4], [2] * 19 + [5], [5] + [2] * 19, [2] * 10 + [4] + [2] * 9):
            self.assertEqual(ask(two(second), leads(line), straight(line)), [[0], [0], [0, 0]])

    def test_to_and_fro_over_all_of_twenty(self):
        wander = padded(again(again(either(letter(2), again(letter(3))))), 30)
        for line in ([2, 3] * 10, [3, 3, 2, 3] * 5, [3] * 20):
            self.assertEqual(ask(two(wander), leads(line), leads(line[:19] + [4])), [[0], [1], [0]])
        # By twos, and back by ones: each line of 2 alone but that of one letter.
        by_twos = padded(again(either(row(2, 2), letter(3))), 30)
        for count in range(21):
            told = ask(two(by_twos), leads([2] * count), straight([2] * count))
            self.assertEqual(told, [[0], [0 if count == 1 else 1], [1 - count % 2, 1 if count == 0 else 0]])

    def test_back_and_forth_on_the_last_edge_of_twenty(self):
        second = order(again(letter(2)), row(3, 2))
        for count in range(1, 21):
            told = ask(two(padded(second, 30)), leads([2] * count), straight([2] * count))
            self.assertEqual(told, [[0], [1], [0, 0]])
        self.assertEqual(ask_leads(second, []), [0])
        self.assertEqual(ask_leads(second, [2] * 19 + [3]), [0])

    def test_leads_and_straight_against_the_words(self):
        chance = random.Random(11)
        told = {}
        for _ in range(250):
            letters = chance.choice(((2, 3), (2, 3), (4, 5), (2, 4), (2, 3, 4)))
            first = padded(again(random_code(chance, chance.randint(4, 6), letters)), 30)
            second = padded(random_second(chance, letters), 30)
            line = random_line(chance, chance.choice((first, second)), letters, chance.choice((18, 19, 20, 20)))
            along = leads_along(tree_of(second), line)
            both = (leads_straight(tree_of(second), line), leads_straight(tree_of(first), line))
            self.assertEqual(ask_leads(second, line), [int(along)], (second, line))
            self.assertEqual(ask_straight(first, second, line), [int(both[0]), int(both[1])], (first, second, line))
            told[(along,) + both] = told.get((along,) + both, 0) + 1
        for key in ((0, 0, 0), (0, 0, 1), (1, 0, 0), (1, 0, 1), (1, 1, 0), (1, 1, 1)):
            self.assertGreater(told.get(key, 0), 3, (key, told))

    def test_forty_calls_about_the_longest(self):
        second = padded(nested_again([2, 3, 4]), 30)
        first = padded(nested_again([2, 3, 4, 5, 2, 3]), 30)
        line, longer = [2, 3, 4, 4] * 5, [2, 3, 4, 5] * 5
        calls = [leads(line), straight(line), leads(longer), straight(longer), SHORTEST, WITHIN]
        told = [[1], [1, 1], [0], [0, 1], [0], [0, 4, 2, 3, 4, 5]]
        self.assertEqual(ask(one(first), two(second), *calls * 6, SWAP, SHORTEST), [[0], [0]] + told * 6 + [[-5], [0]])


class LargestShortest(unittest.TestCase):
    def test_six_letters_and_size_30(self):
        for numbers in ((5, 4, 3, 2, 5, 4), (2, 2, 2, 2, 2, 2), (3, 5, 3, 5, 3, 5)):
            code = padded(row(*numbers), 29)
            self.assertEqual(ask_shortest(code), [6] + list(numbers))
            self.assertEqual(ask_shortest([4] + code), [0])
        pairs = order(*[either(letter(high), letter(low)) for high, low in ((5, 4), (3, 2), (5, 2))])
        self.assertEqual(ask_shortest(padded(pairs, 29)), [3, 4, 2, 2])

    def test_parts_that_change_nothing_change_no_answer(self):
        chance = random.Random(13)
        several = 0
        for _ in range(1500):
            letters = chance.choice(((2, 3), (3, 5), (2, 3, 4), (2, 3, 4, 5)))
            code = random_code(chance, 6, letters)
            size = size_of(tree_of(code))
            if size > 30:
                continue
            shown = first_straight_line(code)
            self.assertEqual(ask_shortest(code), [len(shown)] + shown, code)
            self.assertEqual(ask_shortest(padded(code, 30 - (30 - size) % 2)), [len(shown)] + shown, code)
            several += len(shown) > 2
        self.assertGreater(several, 60)


class Largest(unittest.TestCase):
    def largest_pairs(self, count):
        chance = random.Random(7)
        for _ in range(count):
            letters = chance.choice(((2, 3), (2, 3, 4), (2, 3, 4, 5)))
            first = again(random_code(chance, 6, letters))
            second = again(random_code(chance, 3, letters))
            if size_of(tree_of(first)) <= 30:
                yield first, second

    def test_parts_that_change_nothing_change_no_answer(self):
        for first, second in self.largest_pairs(300):
            large_first, large_second = padded(first, 30), padded(second, 30)
            self.assertEqual(size_of(tree_of(large_first)), 30)
            self.assertEqual(size_of(tree_of(large_second)), 30)
            self.assertEqual(ask_within(large_first, large_second), ask_within(first, second))

    def test_again_and_again_within_again_and_again(self):
        first = padded(nested_again([2, 3, 4, 5, 2, 3]), 30)
        second = padded(nested_again([2, 3, 4]), 30)
        # The second has all of the first's lines but those with a 5, which comes only behind 2 3 4.
        self.assertEqual(ask(one(first), two(second), WITHIN), [[0], [0], [0, 4, 2, 3, 4, 5]])
        self.assertEqual(ask_within(padded(nested_again([2, 3, 4]), 30), second), [1])
        self.assertEqual(ask_within(padded(nested_again([4, 2, 4]), 30), second),
                         [0] + self.counted(first_line_showing(nested_again([4, 2, 4]), nested_again([2, 3, 4]), 4)))

    def counted(self, line):
        return [len(line)] + line

    def test_again_and_again_everywhere(self):
        for letters in ((2, 3, 4, 5, 2, 3), (2, 4, 2, 4, 2, 4), (5, 4, 3, 2, 5, 4)):
            first = padded(widest_again(row(*letters)), 30)
            for three in ((2, 3, 4), (2, 4, 5), (3, 4, 2)):
                second = padded(again(either(*[letter(number) for number in three])), 30)
                shown = first_line_showing(first, second, 2)
                self.assertEqual(ask_within(first, second), [1] if shown is None else [0] + self.counted(shown))

    def test_long_lines(self):
        # 0 letters are a number of threes, 5 aren't.
        fives = padded(again(row(2, 2, 2, 2, 2)), 30)
        self.assertEqual(ask_within(fives, padded(again(row(2, 2, 2)), 30)), [0, 5] + [2] * 5)
        # 1 letter is the letter itself, 6 are a number of twos, 11 are neither.
        fives_and_one = order(again(row(2, 2, 2, 2, 2)), letter(2))
        self.assertEqual(ask_within(fives_and_one, either(again(row(2, 2)), letter(2))), [0, 11] + [2] * 11)
        self.assertEqual(ask_within(again(row(*[4] * 6)), again(row(4, 4, 4))), [1])
        self.assertEqual(ask_within(again(row(*[4] * 6)), padded(again(row(4, 4)), 30)), [1])

    def test_the_deepest_codes(self):
        deep_stay = [4] * 29 + [0]
        deep_letter = [4] * 29 + [1, 2]
        self.assertEqual(ask(one(deep_stay), two(deep_stay), WITHIN, ALIKE), [[0], [0], [1], [1]])
        self.assertEqual(ask(one(deep_letter), two(deep_stay), WITHIN, ALIKE), [[0], [0], [0, 1, 2], [0]])
        self.assertEqual(ask(one(deep_letter), two([4, 1, 2]), WITHIN, ALIKE), [[0], [0], [1], [1]])
        left = [2] * 14 + [1, 2] * 3 + [0] * 12
        right = [2, 0] * 12 + [2, 1, 2, 2, 1, 2, 1, 2]
        self.assertEqual(ask(one(left), two(right), WITHIN, ALIKE), [[0], [0], [1], [1]])
        self.assertEqual(ask(one(right), two(left), WITHIN, ALIKE), [[0], [0], [1], [1]])

    def test_forty_calls_about_the_largest(self):
        calls, told = [], []
        for first, second in list(self.largest_pairs(60))[:13]:
            calls += [one(padded(first, 30)), two(padded(second, 30)), WITHIN]
            told += [[0], [0], ask_within(first, second)]
        self.assertEqual(len(calls), 39)
        self.assertEqual(ask(*calls, ALIKE), told + [[-5]])


if __name__ == "__main__":
    unittest.main()
