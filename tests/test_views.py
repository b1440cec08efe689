"""The views of a line, also for expressions with more letters than the second may have: so much going to and
fro that no part of a view can be left out."""

import random
import unittest

from helper import again, either, leads_along, letter, order, random_code, row, tree_of
from withinany import views
from withinany.codes import read_parts
from withinany.machines import machine_of
from withinany.views import any_number_of_times


def told_by_view(code, letters):
    return views.leads_along(machine_of(read_parts(code)), letters)


class Views(unittest.TestCase):
    def test_back_to_node_0_and_forward_again(self):
        self.assertTrue(told_by_view(row(2, 2, 3, 3, 2, 2), [2, 2]))
        self.assertTrue(told_by_view(row(2, 4, 5, 3, 2, 4), [2, 4]))
        self.assertFalse(told_by_view(row(2, 4, 3, 5, 2, 4), [2, 4]))

    def test_more_than_once_over_the_last_edge(self):
        self.assertTrue(told_by_view(row(2, 3, 2, 3, 2), [2]))
        self.assertFalse(told_by_view(row(2, 3, 2, 3, 2, 3), [2]))

    def test_any_number_of_times_by_way_of_each_state(self):
        self.assertEqual(any_number_of_times([0b0011, 0b0110, 0b1100, 0b1000]), [0b1111, 0b1110, 0b1100, 0b1000])
        self.assertEqual(any_number_of_times([0b1001, 0b0010, 0b0100, 0b1010]), [0b1011, 0b0010, 0b0100, 0b1010])
        self.assertEqual(any_number_of_times([0b0001, 0b0110, 0b0101, 0b1100]), [0b0001, 0b0111, 0b0101, 0b1101])

    def test_against_the_words(self):
        chance = random.Random(3)
        told = {True: 0, False: 0}
        for _ in range(6000):
            letters = chance.choice(((2, 3), (2, 3), (2, 3, 4), (2, 3, 4, 5)))
            code = random_code(chance, chance.randint(1, 8), letters)
            line = [chance.choice(letters) for _ in range(chance.randint(0, 4))]
            self.assertEqual(told_by_view(code, line), leads_along(tree_of(code), line), (code, line))
            told[told_by_view(code, line)] += 1
        self.assertGreater(min(told.values()), 600)

    def test_the_way_there_doesnt_matter(self):
        code = order(again(either(row(2, 2), letter(3))), letter(4))
        self.assertTrue(told_by_view(code, [2, 2, 2, 4]))
        self.assertFalse(told_by_view(code, [2, 4]))


if __name__ == "__main__":
    unittest.main()
