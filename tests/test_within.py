"""within and alike on cases whose answers can be thought out by hand."""

import unittest

from helper import ALIKE, WITHIN, again, ask, ask_alike, ask_within, either, letter, one, order, row, two

STAY = [0]


class Beginning(unittest.TestCase):
    def test_both_are_stay(self):
        self.assertEqual(ask(WITHIN), [[1]])
        self.assertEqual(ask(ALIKE), [[1]])
        self.assertEqual(ask(ALIKE, WITHIN, ALIKE), [[1], [1], [1]])

    def test_the_first_is_stay_until_one(self):
        self.assertEqual(ask(two(letter(2)), WITHIN, ALIKE), [[0], [0, 0], [0]])

    def test_the_second_is_stay_until_two(self):
        self.assertEqual(ask(one(letter(2)), WITHIN, ALIKE), [[0], [0, 1, 2], [0]])


class Within(unittest.TestCase):
    def test_the_case_of_the_document(self):
        self.assertEqual(ask(one([1, 2]), two([2, 1, 2, 2, 1, 3, 1, 2]), WITHIN, ALIKE), [[0], [0], [1], [0]])

    def test_the_case_of_the_document_in_each_direction(self):
        for step, other in ((2, 3), (3, 2), (4, 5), (5, 4)):
            self.assertEqual(ask_within(letter(step), row(step, other, step)), [1])
            self.assertEqual(ask_within(row(step, other, step), letter(step)), [0, 3, step, other, step])
            self.assertEqual(ask_within(letter(step), row(other, step, step)), [0, 1, step])
            self.assertEqual(ask_within(letter(step), letter(other)), [0, 1, step])

    def test_labels_are_not_mixed_up(self):
        self.assertEqual(ask_within(letter(2), row(2, 5, 2)), [0, 1, 2])
        self.assertEqual(ask_within(letter(4), letter(2)), [0, 1, 4])

    def test_stay(self):
        self.assertEqual(ask_within(STAY, again(letter(2))), [1])
        self.assertEqual(ask_within(STAY, row(2, 3)), [0, 0])
        self.assertEqual(ask_within(row(2, 3), STAY), [0, 2, 2, 3])
        self.assertEqual(ask_within(again(letter(5)), STAY), [0, 1, 5])
        self.assertEqual(ask_within(again(STAY), STAY), [1])

    def test_in_order_isnt_turned_round(self):
        self.assertEqual(ask_within(row(2, 4), row(2, 4)), [1])
        self.assertEqual(ask_within(row(2, 4), row(4, 2)), [0, 2, 2, 4])

    def test_to_and_fro_over_more_than_one_edge(self):
        wander = again(either(letter(2), letter(3)))
        self.assertEqual(ask_within(row(2, 2, 3, 3, 2, 2), wander), [1])
        self.assertEqual(ask_within(row(2, 2, 3, 4, 2, 2), wander), [0, 6, 2, 2, 3, 4, 2, 2])
        two_first = order(letter(2), again(either(letter(3), letter(2))))
        self.assertEqual(ask_within(row(2, 2, 3), two_first), [1])
        self.assertEqual(ask_within(row(3, 2), two_first), [0, 2, 3, 2])

    def test_back_over_several_nodes(self):
        # Along 2 2 2: to node 2, back to node 1, on to node 3. Along 2 there's no node 2 to go back from.
        by_twos = again(either(row(2, 2), letter(3)))
        self.assertEqual(ask_within(row(2, 2), by_twos), [1])
        self.assertEqual(ask_within(row(2, 2, 2), by_twos), [1])
        self.assertEqual(ask_within(letter(2), by_twos), [0, 1, 2])
        self.assertEqual(ask_within(row(2, 2, 2, 2, 2), by_twos), [1])

    def test_it_may_not_go_beyond_the_ends(self):
        self.assertEqual(ask_within(letter(2), row(3, 2, 2)), [0, 1, 2])
        self.assertEqual(ask_within(row(2, 2), again(row(2, 2, 3))), [0, 2, 2, 2])

    def test_the_line_is_the_shortest(self):
        self.assertEqual(ask_within(either(row(2, 2), letter(5)), STAY), [0, 1, 5])
        self.assertEqual(ask_within(again(letter(2)), again(row(2, 2))), [0, 1, 2])
        self.assertEqual(ask_within(again(row(2, 2)), again(row(2, 2, 2))), [0, 2, 2, 2])
        self.assertEqual(ask_within(order(letter(5), again(letter(3))), either(letter(5), row(5, 3))), [0, 3, 5, 3, 3])

    def test_of_as_short_ones_it_is_the_first(self):
        some = either(letter(5), letter(4), letter(3))
        self.assertEqual(ask_within(some, letter(2)), [0, 1, 3])
        self.assertEqual(ask_within(some, letter(3)), [0, 1, 4])
        self.assertEqual(ask_within(either(row(5, 2), row(4, 5)), STAY), [0, 2, 4, 5])
        self.assertEqual(ask_within(either(row(4, 5), row(4, 3)), STAY), [0, 2, 4, 3])
        self.assertEqual(ask_within(either(row(2, 5), row(2, 4)), STAY), [0, 2, 2, 4])
        self.assertEqual(ask_within(either(row(2, 3, 5), row(2, 3, 4)), STAY), [0, 3, 2, 3, 4])
        self.assertEqual(ask_within(either(row(5, 2), row(2, 5), row(2, 2)), row(2, 2)), [0, 2, 2, 5])

    def test_the_first_itself_may_go_a_row_in_several_ways(self):
        ways = order(again(letter(2)), again(letter(2)), either(letter(5), letter(4)))
        self.assertEqual(ask_within(ways, either(letter(4), letter(5))), [0, 2, 2, 4])
        self.assertEqual(ask_within(ways, order(again(letter(2)), either(letter(4), letter(5)))), [1])


class Alike(unittest.TestCase):
    def test_alike(self):
        self.assertEqual(ask_alike(letter(2), letter(2)), [1])
        self.assertEqual(ask_alike(again(again(letter(2))), again(letter(2))), [1])
        self.assertEqual(ask_alike(either(letter(2), letter(5)), either(letter(5), letter(2))), [1])
        self.assertEqual(ask_alike(again(either(letter(2), row(2, 2))), again(letter(2))), [1])

    def test_alike_though_the_rows_of_steps_differ(self):
        back_and_forth = again(either(letter(2), letter(3)))
        self.assertEqual(ask_alike(back_and_forth, again(either(letter(3), letter(2), STAY))), [1])
        # Where 3 alone leads, 3 2 3 leads too; so the 2 in the middle asks for nothing.
        self.assertEqual(ask_alike(again(order(again(letter(3)), letter(2), again(letter(3)))), back_and_forth), [1])

    def test_within_on_one_side_alone(self):
        self.assertEqual(ask_alike(letter(2), again(letter(2))), [0])
        self.assertEqual(ask_alike(again(letter(2)), letter(2)), [0])
        self.assertEqual(ask_alike(letter(2), row(2, 3, 2)), [0])
        self.assertEqual(ask_alike(row(2, 3, 2), letter(2)), [0])

    def test_within_on_neither_side(self):
        self.assertEqual(ask_alike(letter(2), letter(3)), [0])
        self.assertEqual(ask_alike(row(2, 4), row(4, 2)), [0])


if __name__ == "__main__":
    unittest.main()
