"""within and alike on many expressions, held against the document's words taken literally."""

import random
import unittest

from helper import ask_alike, ask_within, first_line_showing, leads_along, leads_straight, leads_within, letters_of
from helper import random_code, tree_of

# So many letters of a line are tried out in full, by how many different letters the first has.
LONGEST = {0: 0, 1: 13, 2: 7, 3: 5, 4: 4}
ALPHABETS = ((2, 3), (2, 3), (4, 5), (2, 4), (2, 3, 4), (2, 3, 4, 5))


def random_graph(chance):
    nodes = range(chance.randint(1, 5))
    edges = [(chance.randint(1, 2), chance.choice(nodes), chance.choice(nodes)) for _ in range(chance.randint(0, 8))]
    return nodes, edges


class AgainstTheWords(unittest.TestCase):
    def pairs(self, seed, count, most_in_first):
        chance = random.Random(seed)
        for _ in range(count):
            letters = chance.choice(ALPHABETS)
            first = random_code(chance, chance.randint(0, most_in_first), letters)
            second = random_code(chance, chance.randint(1, 3), letters)
            yield chance, first, second

    def check_told_1(self, chance, first, second, shown):
        self.assertIsNone(shown, (first, second))
        for _ in range(10):
            nodes, edges = random_graph(chance)
            self.assertTrue(leads_within(first, second, nodes, edges), (first, second, edges))

    def check_told_0(self, told, first, second, shown, longest):
        line = told[2:]
        self.assertEqual(told[:2], [0, len(line)])
        self.assertTrue(leads_straight(tree_of(first), line), (first, second, line))
        self.assertFalse(leads_along(tree_of(second), line), (first, second, line))
        self.assertEqual(shown, line if len(line) <= longest else None, (first, second))

    def test_within(self):
        told_1 = 0
        for chance, first, second in self.pairs(1, 4000, 6):
            longest = LONGEST[len(letters_of(tree_of(first)))]
            shown = first_line_showing(first, second, longest)
            told = ask_within(first, second)
            if told == [1]:
                told_1 += 1
                self.check_told_1(chance, first, second, shown)
            else:
                self.check_told_0(told, first, second, shown, longest)
        self.assertGreater(told_1, 400)

    def test_alike_is_within_both_ways(self):
        told_1 = 0
        for _, first, second in self.pairs(2, 6000, 3):
            both = ask_within(first, second) == [1] and ask_within(second, first) == [1]
            self.assertEqual(ask_alike(first, second), [1 if both else 0], (first, second))
            told_1 += both
        self.assertGreater(told_1, 100)


if __name__ == "__main__":
    unittest.main()
