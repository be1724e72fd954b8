import unittest

from tests.helper import BACK, GAINS, MAY, TOP, ask, pizza, take


class PizzaAnswers(unittest.TestCase):
    def test_sum_of_ordinary_sizes(self):
        self.assertEqual(ask(pizza(3, 1, 4, 1, 5)), [[14]])
        self.assertEqual(ask(pizza(7, 7)), [[14]])

    def test_fewest_and_most_pieces(self):
        self.assertEqual(ask(pizza(9), GAINS), [[9], [0, 0, 0, 1]])
        self.assertEqual(ask(pizza(*range(1, 13)), GAINS), [[78], [0, 0, 0, 12]])

    def test_smallest_and_largest_sizes(self):
        self.assertEqual(ask(pizza(0), pizza(0, 0, 0)), [[0], [0]])
        self.assertEqual(ask(pizza(1000), pizza(*[1000] * 12)), [[1000], [12000]])
        self.assertEqual(ask(pizza(0, 1000, 0)), [[1000]])

    def test_sizes_keep_their_order(self):
        for piece, size in enumerate([5, 0, 8, 2]):
            self.assertEqual(ask(pizza(5, 0, 8, 2), take(piece)), [[15], [0, size]])

    def test_none_taken_and_0_at_turn_afterwards(self):
        self.assertEqual(
            ask(pizza(4, 5, 6), take(1), pizza(2, 3), GAINS, MAY, BACK),
            [[15], [0, 5], [5], [0, 0, 0, 2], [2, 0, 1], [-9]])

    def test_the_same_sizes_again_are_a_new_pizza(self):
        self.assertEqual(ask(pizza(4, 5), take(0), pizza(4, 5), GAINS)[3], [0, 0, 0, 2])


class PizzaRefused(unittest.TestCase):
    def test_no_piece(self):
        self.assertEqual(ask(pizza()), [[-1]])

    def test_more_than_twelve_pieces(self):
        for many in range(13, 41):
            self.assertEqual(ask(pizza(*[1] * many)), [[-1]], many)
            self.assertEqual(ask(pizza(*[0] * many)), [[-1]], many)

    def test_a_size_above_1000(self):
        for size in (1001, 1002, 4096, 65536, 2147483648, TOP):
            self.assertEqual(ask(pizza(size)), [[-1]], size)
            for place in range(12):
                sizes = [1] * 12
                sizes[place] = size
                self.assertEqual(ask(pizza(*sizes)), [[-1]], (size, place))

    def test_too_many_and_too_large(self):
        self.assertEqual(ask(pizza(*[TOP] * 40)), [[-1]])

    def test_all_is_as_it_was(self):
        for refused in (pizza(), pizza(*[1] * 13), pizza(*[2] * 40), pizza(1, 1001), pizza(TOP, 3)):
            self.assertEqual(
                ask(pizza(3, 5, 7, 9), take(2), refused, GAINS, MAY, take(1), refused, GAINS, BACK, BACK, BACK),
                [[24], [0, 7], [-1], [7, 0, 1, 3], [2, 1, 3], [1, 5], [-1], [7, 5, 0, 2], [1], [2], [-9]])

    def test_the_first_pizza_is_as_it_was(self):
        self.assertEqual(ask(pizza(), GAINS, MAY, take(0)), [[-1], [0, 0, 0, 1], [1, 0], [0, 1]])


class PizzaAtTheBeginning(unittest.TestCase):
    def test_one_piece_of_size_1(self):
        self.assertEqual(ask(GAINS, MAY, take(0), GAINS), [[0, 0, 0, 1], [1, 0], [0, 1], [1, 0, 1, 0]])

    def test_it_has_no_second_piece(self):
        self.assertEqual(ask(take(1)), [[-1]])

    def test_none_has_been_taken(self):
        self.assertEqual(ask(BACK), [[-9]])


if __name__ == "__main__":
    unittest.main()
