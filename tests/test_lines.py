"""leads, straight, shortest and swap on cases whose answers can be thought out by hand."""

import unittest

from helper import ALIKE, SHORTEST, SWAP, WITHIN, again, ask, ask_leads, ask_shortest, ask_straight, either, leads
from helper import letter, one, order, row, straight, two

STAY = [0]


class Beginning(unittest.TestCase):
    def test_both_are_stay(self):
        self.assertEqual(ask(leads([])), [[1]])
        self.assertEqual(ask(leads([2])), [[0]])
        self.assertEqual(ask(straight([])), [[1, 1]])
        self.assertEqual(ask(straight([5])), [[0, 0]])
        self.assertEqual(ask(SHORTEST), [[0]])
        self.assertEqual(ask(SWAP), [[0]])
        self.assertEqual(ask(SWAP, SHORTEST, leads([]), leads([3]), straight([]), straight([3, 3]), WITHIN, ALIKE),
                         [[0], [0], [1], [0], [1, 1], [0, 0], [1], [1]])

    def test_the_second_is_stay_until_two(self):
        self.assertEqual(ask(one(letter(2)), leads([]), leads([2]), straight([]), straight([2]), SHORTEST),
                         [[0], [1], [0], [1, 0], [0, 1], [1, 2]])

    def test_the_first_is_stay_until_one(self):
        self.assertEqual(ask(two(letter(2)), leads([]), leads([2]), straight([]), straight([2]), SHORTEST),
                         [[0], [0], [1], [0, 1], [1, 0], [0]])

    def test_swapped_before_the_other_is_told(self):
        self.assertEqual(ask(one(letter(2)), SWAP, leads([2]), straight([2]), SHORTEST, WITHIN),
                         [[0], [0], [1], [1, 0], [0], [0, 0]])
        self.assertEqual(ask(two(letter(2)), SWAP, leads([2]), straight([2]), SHORTEST, WITHIN),
                         [[0], [0], [0], [0, 1], [1, 2], [0, 1, 2]])


class Leads(unittest.TestCase):
    def test_the_case_of_the_document(self):
        self.assertEqual(ask(two([2, 1, 2, 2, 1, 3, 1, 2]), leads([2]), straight([2]), straight([2, 3, 2])),
                         [[0], [1], [0, 0], [1, 0]])

    def test_the_case_of_the_document_in_each_direction(self):
        for step, other in ((2, 3), (3, 2), (4, 5), (5, 4)):
            second = row(step, other, step)
            for line in ([step], [step, other, step]):
                self.assertEqual(ask_leads(second, line), [1])
            for line in ([], [other], [step, step], [step, other], [other, step, other]):
                self.assertEqual(ask_leads(second, line), [0])

    def test_each_letter(self):
        for step in (2, 3, 4, 5):
            for other in (2, 3, 4, 5):
                self.assertEqual(ask_leads(letter(step), [other]), [1 if step == other else 0])

    def test_it_may_turn_on_the_last_edge_and_go_it_again(self):
        self.assertEqual(ask_leads(row(2, 3, 2), [2]), [1])
        self.assertEqual(ask_leads(again(row(2, 3, 2)), [2, 2, 2]), [1])
        self.assertEqual(ask_leads(again(either(row(2, 2), letter(3))), [2, 2, 2]), [1])
        self.assertEqual(ask_leads(again(either(row(2, 2), letter(3))), [2]), [0])

    def test_it_is_from_node_0_to_the_last(self):
        self.assertEqual(ask_leads(row(2, 3), [2]), [0])
        self.assertEqual(ask_leads(row(2, 3), []), [0])
        self.assertEqual(ask_leads(letter(2), [2, 2]), [0])
        self.assertEqual(ask_leads(row(2, 2), [2]), [0])
        self.assertEqual(ask_leads(letter(2), [3]), [0])
        self.assertEqual(ask_leads(letter(3), [2]), [0])

    def test_it_may_not_go_beyond_the_ends(self):
        self.assertEqual(ask_leads(row(3, 2, 2), [2]), [0])
        self.assertEqual(ask_leads(row(2, 2, 3), [2]), [0])
        self.assertEqual(ask_leads(order(letter(3), again(letter(2))), [2]), [0])

    def test_labels_are_not_mixed_up(self):
        self.assertEqual(ask_leads(row(2, 5, 2), [2]), [0])
        self.assertEqual(ask_leads(row(2, 5, 4), [2, 5]), [0])
        self.assertEqual(ask_leads(row(2, 3, 4), [4]), [0])
        self.assertEqual(ask_leads(row(4, 5, 4), [4]), [1])

    def test_stay_and_again_and_again(self):
        for second, told in ((STAY, 1), (again(letter(2)), 1), (letter(2), 0), (either(letter(2), STAY), 1)):
            self.assertEqual(ask_leads(second, []), [told])
        self.assertEqual(ask_leads(again(row(2, 4)), [2, 4, 2, 4]), [1])
        self.assertEqual(ask_leads(again(row(2, 4)), [2, 4, 2]), [0])

    def test_it_is_about_the_second_alone(self):
        self.assertEqual(ask(one(letter(2)), two(letter(4)), leads([2]), leads([4])), [[0], [0], [0], [1]])


class Straight(unittest.TestCase):
    def test_all_four_pairs_the_second_first(self):
        first, second = either(letter(2), letter(3)), either(letter(2), letter(4))
        for line, told in (([2], [1, 1]), ([3], [0, 1]), ([4], [1, 0]), ([5], [0, 0])):
            self.assertEqual(ask_straight(first, second, line), told)

    def test_the_line_of_no_letters(self):
        stays = (STAY, again(letter(2)), either(letter(3), STAY), order(STAY, again(letter(5))))
        goes = (letter(2), row(2, 3), order(again(letter(2)), letter(3)), either(letter(2), letter(3)))
        for code in stays:
            self.assertEqual(ask_straight(code, letter(2), []), [0, 1])
            self.assertEqual(ask_straight(letter(2), code, []), [1, 0])
        for code in goes:
            self.assertEqual(ask_straight(code, STAY, []), [1, 0])
            self.assertEqual(ask_straight(STAY, code, []), [0, 1])

    def test_to_and_fro_is_not_straight(self):
        self.assertEqual(ask(one(row(2, 3, 2, 3, 2)), two(row(2, 3, 2)), straight([2]), leads([2])),
                         [[0], [0], [0, 0], [1]])
        self.assertEqual(ask_straight(row(2, 3, 2, 3, 2), row(2, 3, 2), [2, 3, 2]), [1, 0])
        self.assertEqual(ask_straight(row(2, 3, 2, 3, 2), row(2, 3, 2), [2, 3, 2, 3, 2]), [0, 1])

    def test_in_order_either_and_again(self):
        code = order(again(either(letter(2), letter(5))), letter(3))
        for line in ([3], [2, 3], [5, 3], [2, 5, 5, 2, 3]):
            self.assertEqual(ask_straight(code, code, line), [1, 1])
        for line in ([], [2], [3, 3], [2, 4, 3], [3, 2], [2, 5]):
            self.assertEqual(ask_straight(code, code, line), [0, 0])

    def test_the_whole_line_and_no_more(self):
        self.assertEqual(ask_straight(row(2, 4, 3, 5), row(2, 4, 3), [2, 4]), [0, 0])
        self.assertEqual(ask_straight(row(2, 4, 3, 5), row(2, 4, 3), [2, 4, 3]), [1, 0])
        self.assertEqual(ask_straight(row(2, 4, 3, 5), row(2, 4, 3), [2, 4, 3, 5]), [0, 1])
        self.assertEqual(ask_straight(row(2, 4, 3, 5), row(2, 4, 3), [2, 4, 3, 5, 2]), [0, 0])


class Shortest(unittest.TestCase):
    def test_no_letters(self):
        for code in (STAY, again(row(2, 3)), either(letter(2), STAY), order(again(letter(2)), again(letter(3)))):
            self.assertEqual(ask_shortest(code), [0])

    def test_one_letter_and_several(self):
        for step in (2, 3, 4, 5):
            self.assertEqual(ask_shortest(letter(step)), [1, step])
        self.assertEqual(ask_shortest(row(5, 2)), [2, 5, 2])
        self.assertEqual(ask_shortest(row(5, 4, 3, 2, 5, 4)), [6, 5, 4, 3, 2, 5, 4])

    def test_the_shortest_is_before_a_lower(self):
        self.assertEqual(ask_shortest(either(row(2, 2), letter(5))), [1, 5])
        self.assertEqual(ask_shortest(either(letter(5), row(2, 2))), [1, 5])
        self.assertEqual(ask_shortest(order(again(letter(2)), letter(5))), [1, 5])
        self.assertEqual(ask_shortest(order(again(letter(2)), row(5, 4), again(letter(3)))), [2, 5, 4])

    def test_of_as_short_ones_it_is_the_lower_at_the_first_place(self):
        self.assertEqual(ask_shortest(either(letter(5), letter(3), letter(4))), [1, 3])
        self.assertEqual(ask_shortest(either(row(5, 2), row(4, 5))), [2, 4, 5])
        self.assertEqual(ask_shortest(either(row(2, 5), row(5, 2))), [2, 2, 5])
        self.assertEqual(ask_shortest(either(row(4, 5), row(4, 3))), [2, 4, 3])
        self.assertEqual(ask_shortest(either(row(2, 3, 5), row(2, 3, 4))), [3, 2, 3, 4])
        self.assertEqual(ask_shortest(either(row(3, 2, 2), row(2, 5, 5))), [3, 2, 5, 5])
        self.assertEqual(ask_shortest(order(either(letter(5), letter(4)), either(letter(3), letter(2)))), [2, 4, 2])

    def test_to_and_fro_is_not_cut_short(self):
        self.assertEqual(ask_shortest(row(2, 3, 2)), [3, 2, 3, 2])
        self.assertEqual(ask_shortest(row(2, 3)), [2, 2, 3])

    def test_it_is_about_the_first_alone(self):
        self.assertEqual(ask(two(row(2, 3)), SHORTEST, one(letter(4)), SHORTEST, two(STAY), SHORTEST),
                         [[0], [0], [0], [1, 4], [0], [1, 4]])


class Swap(unittest.TestCase):
    def test_all_is_about_the_other_then(self):
        first, second = row(2, 3, 2), letter(2)
        asked = [WITHIN, ALIKE, leads([2]), leads([2, 3, 2]), straight([2]), straight([2, 3, 2]), SHORTEST]
        before = [[0, 3, 2, 3, 2], [0], [1], [0], [1, 0], [0, 1], [3, 2, 3, 2]]
        after = [[1], [0], [1], [1], [0, 1], [1, 0], [1, 2]]
        self.assertEqual(ask(one(first), two(second), *asked)[2:], before)
        self.assertEqual(ask(one(first), two(second), SWAP, *asked)[2:], [[0]] + after)
        self.assertEqual(ask(one(first), two(second), *asked, SWAP, *asked, SWAP, *asked)[2:],
                         before + [[0]] + after + [[0]] + before)

    def test_alike_stays_the_same(self):
        self.assertEqual(ask(one(again(again(letter(2)))), two(again(letter(2))), ALIKE, SWAP, ALIKE),
                         [[0], [0], [1], [0], [1]])

    def test_twice_is_not_at_all(self):
        asked = [SHORTEST, straight([2, 4]), straight([5]), leads([5]), WITHIN]
        told = [[2, 2, 4], [0, 1], [1, 0], [1], [0, 2, 2, 4]]
        self.assertEqual(ask(one(row(2, 4)), two(letter(5)), SWAP, SWAP, *asked)[4:], told)
        self.assertEqual(ask(one(row(2, 4)), two(letter(5)), SWAP, SWAP, SWAP, SWAP, *asked)[6:], told)

    def test_one_and_two_are_still_the_first_and_the_second(self):
        self.assertEqual(ask(one(letter(2)), two(letter(4)), SWAP, one(letter(3)), straight([2]), straight([3])),
                         [[0], [0], [0], [0], [1, 0], [0, 1]])
        self.assertEqual(ask(one(letter(2)), two(letter(4)), SWAP, two(letter(3)), straight([4]), straight([3])),
                         [[0], [0], [0], [0], [0, 1], [1, 0]])


if __name__ == "__main__":
    unittest.main()
