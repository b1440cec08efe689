"""Each question on many expressions, held against the document's words taken literally."""

import itertools
import random
import unittest

from helper import ask, ask_alike, ask_shortest, ask_within, first_line_showing, first_straight_line, leads
from helper import leads_along, leads_straight, leads_within, letters_of, one, random_code, straight, tree_of, two

# So many letters of a line are tried out in full, by how many different letters the first has.
LONGEST = {0: 0, 1: 13, 2: 7, 3: 5, 4: 4}
ALPHABETS = ((2, 3), (2, 3), (4, 5), (2, 4), (2, 3, 4), (2, 3, 4, 5))


def random_graph(chance):
    nodes = range(chance.randint(1, 5))
    edges = [(chance.randint(1, 2), chance.choice(nodes), chance.choice(nodes)) for _ in range(chance.randint(0, 8))]
    return nodes, edges


class AgainstTheWords(unittest.TestCase):
    def pairs(self, seed, count, most_in_first):
        chance = random.Random(seed)
        for _ in range(count):
            letters = chance.choice(ALPHABETS)
            first = random_code(chance, chance.randint(0, most_in_first), letters)
            second = random_code(chance, chance.randint(1, 3), letters)
            yield chance, first, second

    def check_told_1(self, chance, first, second, shown):
        self.assertIsNone(shown, (first, second))
        for _ in range(10):
            nodes, edges = random_graph(chance)
            self.assertTrue(leads_within(first, second, nodes, edges), (first, second, edges))

    def check_told_0(self, told, first, second, shown, longest):
        line = told[2:]
        self.assertEqual(told[:2], [0, len(line)])
        self.assertTrue(leads_straight(tree_of(first), line), (first, second, line))
        self.assertFalse(leads_along(tree_of(second), line), (first, second, line))
        self.assertEqual(shown, line if len(line) <= longest else None, (first, second))

    def test_within(self):
        told_1 = 0
        for chance, first, second in self.pairs(1, 4000, 6):
            longest = LONGEST[len(letters_of(tree_of(first)))]
            shown = first_line_showing(first, second, longest)
            told = ask_within(first, second)
            if told == [1]:
                told_1 += 1
                self.check_told_1(chance, first, second, shown)
            else:
                self.check_told_0(told, first, second, shown, longest)
        self.assertGreater(told_1, 400)

    def test_alike_is_within_both_ways(self):
        told_1 = 0
        for _, first, second in self.pairs(2, 6000, 3):
            both = ask_within(first, second) == [1] and ask_within(second, first) == [1]
            self.assertEqual(ask_alike(first, second), [1 if both else 0], (first, second))
            told_1 += both
        self.assertGreater(told_1, 100)

    def lines(self, chance, code):
        """All short lines of a code's letters and their other directions, and some longer ones."""
        letters = sorted({number ^ flip for number in letters_of(tree_of(code)) for flip in (0, 1)})
        for length in range(4 if len(letters) == 2 else 2):
            yield from itertools.product(letters, repeat=length)
        for _ in range(5):
            yield [chance.choice(letters) for _ in range(chance.randint(3, 7))]

    def test_leads_and_straight(self):
        to_and_fro = 0
        for chance, first, second in self.pairs(4, 1800, 6):
            for line in self.lines(chance, second):
                along = leads_along(tree_of(second), line)
                both = [leads_straight(tree_of(code), line) for code in (second, first)]
                told = ask(one(first), two(second), leads(line), straight(line))
                self.assertEqual(told, [[0], [0], [int(along)], [int(holds) for holds in both]], (first, second, line))
                to_and_fro += along and not both[0]
        self.assertGreater(to_and_fro, 30)

    def test_shortest(self):
        several = 0
        for _, first, _ in self.pairs(5, 3000, 6):
            line = first_straight_line(first)
            self.assertEqual(ask_shortest(first), [len(line)] + line, first)
            several += len(line) > 1
        self.assertGreater(several, 300)


if __name__ == "__main__":
    unittest.main()
