import itertools
import unittest

from tests.helper import BACK, GAINS, MAY, WORTH, ask, numbers, pizza, plain_worth, take, ways_to_all_rests


class Worth(unittest.TestCase):
    def check(self, sizes, way):
        answer = ask(pizza(*sizes), *[take(piece) for piece in way], WORTH)[-1]
        self.assertEqual(answer, list(plain_worth(sizes, way)), (sizes, way))
        left = sum(sizes) - sum(sizes[piece] for piece in way)
        self.assertEqual(sum(answer), left, (sizes, way))
        self.assertGreaterEqual(min(answer), 0, (sizes, way))

    def test_by_hand(self):
        self.assertEqual(ask(WORTH), [[1, 0]])
        self.assertEqual(ask(pizza(3, 8), WORTH)[1], [8, 3])
        self.assertEqual(ask(pizza(1, 2, 9), WORTH)[1], [10, 2])
        # In a row 2, 9, 3 either end lays the large piece open to the other one.
        self.assertEqual(ask(pizza(0, 2, 9, 3), take(0), WORTH)[2], [5, 9])

    def test_whole_pizzas_of_small_sizes(self):
        for many in range(1, 6):
            for sizes in itertools.product(range(4 if many < 5 else 3), repeat=many):
                self.check(list(sizes), [])

    def test_whole_pizzas_of_mixed_sizes(self):
        for many in range(1, 9):
            for start in range(20):
                self.check(numbers(start, many, 2 if start % 4 == 0 else 1001), [])

    def test_all_rests(self):
        for many in range(1, 8):
            for start in range(4):
                sizes = numbers(100 * many + start, many, 3 if start == 0 else 1001)
                for way in ways_to_all_rests(many):
                    self.check(sizes, way)

    def test_large_pizzas(self):
        for many in (9, 10, 11, 12):
            sizes = numbers(many, many, 1001)
            self.check(sizes, [])
            self.check(sizes, [many - 1])
            self.check(sizes, [0, many - 1, 1, 2])
        self.assertEqual(ask(pizza(*[1000] * 12), WORTH)[1], [6000, 6000])
        self.assertEqual(ask(pizza(*[1000] * 11), WORTH)[1], [6000, 5000])

    def test_nothing_left(self):
        self.assertEqual(ask(take(0), WORTH)[1], [0, 0])
        self.assertEqual(ask(pizza(5, 6, 7), take(2), take(0), take(1), WORTH)[4], [0, 0])

    def test_one_left(self):
        self.assertEqual(ask(pizza(5, 6, 7), take(2), take(0), WORTH)[3], [6, 0])
        self.assertEqual(ask(pizza(5, 6), take(1), WORTH)[2], [5, 0])

    def test_of_what_is_left_alone(self):
        self.assertEqual(ask(pizza(1000, 1, 1), take(0), WORTH)[2], [1, 1])

    def test_half_of_it_with_an_even_number(self):
        for many in (2, 4, 6, 8, 10, 12):
            for start in range(60):
                own, other = ask(pizza(*numbers(start, many, 1001)), WORTH)[1]
                self.assertGreaterEqual(own, other)

    def test_four_ninths_with_whatever_number(self):
        for many in range(1, 13):
            for start in range(60):
                own, other = ask(pizza(*numbers(start, many, 4)), WORTH)[1]
                self.assertGreaterEqual(9 * own, 4 * (own + other))

    def test_asking_changes_nothing(self):
        self.assertEqual(
            ask(pizza(1, 2, 9), take(0), WORTH, WORTH, GAINS, MAY, BACK)[2:],
            [[9, 2], [9, 2], [1, 0, 1, 2], [2, 1, 2], [0]])


if __name__ == "__main__":
    unittest.main()
