"""All eight calls on one object, each building on the ones before, held against the document's words taken
literally."""

import random
import unittest

from helper import ALIKE, SHORTEST, SWAP, WITHIN, ask, ask_within, first_line_showing, first_straight_line, is_code
from helper import leads, leads_along, leads_straight, letter_count, letters_of, one, random_code, size_of, straight
from helper import tree_of, two
from withinany.steps import answers

# So many letters of a line are tried out in full, by how many different letters an expression has.
LONGEST = {0: 0, 1: 13, 2: 6, 3: 4, 4: 4}
ALPHABETS = ((2, 3), (2, 3), (5, 4), (2, 4), (2, 3, 4, 5))
NO_LETTERS = (0, 1, 6, 7, 4294967295)


def random_row(chance, code, letters):
    """A code's own letters, any, or some that are refused."""
    choice = chance.random()
    if choice < 0.1:
        return [chance.choice(letters) for _ in range(chance.choice((21, 22, 100)))]
    own = [number for at, number in enumerate(code) if at > 0 and code[at - 1] == 1]
    line = own if choice < 0.4 else [chance.choice(letters) for _ in range(chance.choice((0, 1, 1, 2, 3, 4, 20)))]
    if choice > 0.92:
        line = line + [chance.choice(NO_LETTERS)]
    return line


def random_expression(chance, most_letters, letters):
    """A code, now and then one that is too large or none."""
    code = random_code(chance, chance.randint(0, most_letters + (chance.random() < 0.1)), letters)
    choice = chance.random()
    if choice < 0.05:
        return [4] * chance.choice((28, 29, 30, 60)) + code
    if choice < 0.1:
        return code[:-1] if chance.random() < 0.5 else code + [chance.choice((0, 1, 2, 5))]
    return code


class Words:
    """The two expressions, and what the document's words tell of them."""

    def __init__(self, test):
        self.test = test
        self.first = [0]
        self.second = [0]

    def refusal_of_code(self, code, most_letters):
        if len(code) > 60 or not is_code(code):
            return -1
        if size_of(tree_of(code)) > 30 or letter_count(tree_of(code)) > most_letters:
            return -5
        return 0

    def check_one(self, row, told):
        refusal = self.refusal_of_code(row, 6)
        self.test.assertEqual(told, [refusal], row)
        if refusal == 0:
            self.first = row

    def check_two(self, row, told):
        refusal = self.refusal_of_code(row, 3)
        self.test.assertEqual(told, [refusal], row)
        if refusal == 0:
            self.second = row

    def check_is_within(self, first, second, told):
        longest = LONGEST[len(letters_of(tree_of(first)))]
        shown = first_line_showing(first, second, longest)
        if told == [1]:
            self.test.assertIsNone(shown, (first, second))
            return
        line = told[2:]
        self.test.assertEqual(told[:2], [0, len(line)])
        self.test.assertTrue(leads_straight(tree_of(first), line), (first, line))
        self.test.assertFalse(leads_along(tree_of(second), line), (second, line))
        self.test.assertEqual(shown, line if len(line) <= longest else None, (first, second))

    def check_within(self, row, told):
        self.check_is_within(self.first, self.second, told)

    def first_is_too_large_for_a_second(self):
        return letter_count(tree_of(self.first)) > 3

    def check_alike(self, row, told):
        if self.first_is_too_large_for_a_second():
            self.test.assertEqual(told, [-5])
            return
        there = ask_within(self.first, self.second)
        back = ask_within(self.second, self.first)
        self.check_is_within(self.first, self.second, there)
        self.check_is_within(self.second, self.first, back)
        self.test.assertEqual(told, [1 if there == back == [1] else 0], (self.first, self.second))

    def is_line(self, letters):
        return len(letters) <= 20 and all(number in (2, 3, 4, 5) for number in letters)

    def check_leads(self, row, told):
        right = [int(leads_along(tree_of(self.second), row))] if self.is_line(row) else [-1]
        self.test.assertEqual(told, right, (self.second, row))

    def check_straight(self, row, told):
        right = [-1]
        if self.is_line(row):
            right = [int(leads_straight(tree_of(code), row)) for code in (self.second, self.first)]
        self.test.assertEqual(told, right, (self.first, self.second, row))

    def check_shortest(self, row, told):
        line = first_straight_line(self.first)
        self.test.assertEqual(told, [len(line)] + line, self.first)

    def check_swap(self, row, told):
        self.test.assertEqual(told, [-5 if self.first_is_too_large_for_a_second() else 0], self.first)
        if told == [0]:
            self.first, self.second = self.second, self.first

    def check(self, call, told):
        checks = (self.check_one, self.check_two, self.check_within, self.check_alike, self.check_leads,
                  self.check_straight, self.check_shortest, self.check_swap)
        checks[call[0]](call[2:], told)


def random_calls(chance, count):
    letters = chance.choice(ALPHABETS)
    most_in_first = chance.choice((2, 3, 6))
    calls, codes = [], [[0]]
    while len(calls) < count:
        number = chance.choice((0, 0, 1, 1, 2, 3, 4, 4, 5, 5, 6, 7, 7))
        if number in (0, 1):
            codes.append(random_expression(chance, most_in_first if number == 0 else 3, letters))
            calls.append((one, two)[number](codes[-1]))
        elif number in (4, 5):
            calls.append((leads, straight)[number - 4](random_row(chance, chance.choice(codes[-2:]), letters)))
        else:
            calls.append({2: WITHIN, 3: ALIKE, 6: SHORTEST, 7: SWAP}[number])
    return calls


class Mixed(unittest.TestCase):
    def test_against_the_words(self):
        chance = random.Random(17)
        seen = {}
        for _ in range(1500):
            calls = random_calls(chance, chance.choice((1, 10, 20, 40, 40)))
            words = Words(self)
            told = ask(*calls)
            self.assertEqual(len(told), len(calls))
            for call, numbers in zip(calls, told):
                words.check(call, numbers)
                key = (call[0], tuple(numbers[:2]) if call[0] == 5 else numbers[0])
                seen[key] = seen.get(key, 0) + 1
        asked_for = [(0, 0), (0, -1), (0, -5), (1, 0), (1, -1), (1, -5), (2, 0), (2, 1), (3, 0), (3, 1), (3, -5)]
        asked_for += [(4, 0), (4, 1), (4, -1), (5, (0, 0)), (5, (0, 1)), (5, (1, 0)), (5, (1, 1)), (5, (-1,))]
        asked_for += [(6, 0), (6, 1), (6, 2), (6, 3), (7, 0), (7, -5)]
        for key in asked_for:
            self.assertGreater(seen.get(key, 0), 10, key)

    def test_what_is_handed_in_is_the_same_afterwards(self):
        chance = random.Random(19)
        for _ in range(100):
            calls = [number for call in random_calls(chance, 40) for number in call]
            before = list(calls)
            told = answers(calls)
            self.assertEqual(calls, before)
            self.assertEqual({number.__class__ for number in calls + told}, {int})
            self.assertEqual(answers(calls), told)

    def test_two_runs_dont_touch_each_other(self):
        chance = random.Random(23)
        runs = [[number for call in random_calls(chance, 30) for number in call] for _ in range(40)]
        alone = [answers(list(calls)) for calls in runs]
        for this, calls in enumerate(runs):
            for other in (this - 1, this - 7, this - 20):
                answers(runs[other])
                self.assertEqual(answers(calls), alone[this])

    def test_by_hand(self):
        self.assertEqual(
            ask(SWAP, one([1, 2]), SWAP, SHORTEST, leads([2]), two([2, 1, 2, 2, 1, 3, 1, 2]), WITHIN, one([1, 2]),
                WITHIN, ALIKE, leads([2]), straight([2]), SWAP, WITHIN, SHORTEST, leads([2]), straight([2]),
                straight([2, 3, 2]), one([4, 1, 2]), two([9]), straight([2, 2]), WITHIN, SWAP, WITHIN, SHORTEST,
                leads([2, 2, 2]), leads([6]), SWAP, SWAP, ALIKE),
            [[0], [0], [0], [0], [1], [0], [0, 0], [0],
             [1], [0], [1], [0, 1], [0], [0, 3, 2, 3, 2], [3, 2, 3, 2], [1], [1, 0],
             [0, 1], [0], [-1], [0, 1], [0, 0], [0], [1], [1, 2],
             [1], [-1], [0], [0], [0]])


if __name__ == "__main__":
    unittest.main()
