import itertools
import unittest

from pizzaturns.slices import next_row
from tests.helper import BACK, CUT, GAINS, MAY, WORTH, ask, ask_at, numbers, pizza, plain_cut, take, ways_to_all_rests


class Cut(unittest.TestCase):
    def check(self, sizes):
        answer = ask_at(sizes, [], CUT)[0]
        self.assertEqual(answer, plain_cut(tuple(sizes)), sizes)
        self.assertEqual(ask_at(answer[1:], [], WORTH)[0][0], answer[0], sizes)

    def test_by_hand(self):
        self.assertEqual(ask(CUT), [[1, 1]])
        self.assertEqual(ask_at([8, 3], [], CUT), [[8, 3, 8]])
        # Round three pieces each lies beside each: the order changes nothing.
        self.assertEqual(ask_at([9, 2, 1], [], CUT), [[10, 1, 2, 9]])
        # Behind the 4 the other one gets 3 and 1 at most, however it is cut.
        self.assertEqual(ask_at([4, 3, 2, 1], [], CUT), [[6, 1, 2, 3, 4]])
        # In rising order one gets a 1 beside the 4; in this order the other one gets both.
        self.assertEqual(ask_at([4, 1, 1, 0, 0], [], CUT), [[4, 0, 1, 0, 1, 4]])

    def test_sizes_of_0_and_1000(self):
        self.assertEqual(ask_at([0] * 7, [], CUT), [[0] * 8])
        self.assertEqual(ask_at([1000] * 7, [], CUT), [[4000] + [1000] * 7])
        self.assertEqual(ask_at([1000, 0], [], CUT), [[1000, 0, 1000]])
        for many in range(1, 8):
            for large in range(many + 1):
                self.check([1000] * large + [0] * (many - large))

    def test_small_sizes_in_all_orders(self):
        for many in range(1, 5):
            for sizes in itertools.product(range(4), repeat=many):
                self.check(list(sizes))

    def test_equal_sizes_among_them(self):
        for many in (5, 6, 7):
            for start in range(8):
                self.check(numbers(start, many, 3))

    def test_all_sizes_different(self):
        for many in range(1, 7):
            self.check(list(range(many)))
            self.check(numbers(many, many, 1001))
        self.check([3, 1, 4, 0, 5, 9, 1000])

    def test_the_order_of_the_sizes_is_nothing_to_it(self):
        for sizes in itertools.permutations((0, 1, 2, 2, 5)):
            self.assertEqual(ask_at(sizes, [], CUT)[0], plain_cut((0, 1, 2, 2, 5)))

    def test_of_a_whole_pizza_whatever_has_been_taken(self):
        for many in range(1, 8):
            sizes = numbers(many + 3, many, 5)
            for way in ways_to_all_rests(many):
                self.assertEqual(ask_at(sizes, way, CUT)[0], plain_cut(tuple(sizes)), (sizes, way))

    def test_changes_nothing(self):
        self.assertEqual(
            ask(pizza(1, 0, 4, 1, 0), take(0), CUT, CUT, GAINS, MAY, WORTH, take(1), CUT, GAINS, BACK, BACK, BACK),
            [[6], [0, 1], [4, 0, 1, 0, 1, 4], [4, 0, 1, 0, 1, 4], [1, 0, 1, 4], [2, 1, 4], [4, 1], [1, 0],
             [4, 0, 1, 0, 1, 4], [1, 0, 0, 3], [1], [0], [-9]])


class RowsInOrder(unittest.TestCase):
    def test_each_row_once_and_rising(self):
        for sizes in ((7,), (2, 5), (4, 4), (0, 1, 2), (0, 1, 1, 2), (3, 3, 3, 8, 8), (0, 1, 2, 3, 4)):
            rows = []
            row = list(sizes)
            while row:
                rows.append(tuple(row))
                row = next_row(row)
            self.assertEqual(rows, sorted(set(itertools.permutations(sizes))))

    def test_the_row_handed_in_is_the_same_afterwards(self):
        row = [0, 2, 1]
        next_row(row)
        self.assertEqual(row, [0, 2, 1])


class CutRefused(unittest.TestCase):
    def test_more_than_seven_pieces(self):
        for many in range(8, 13):
            self.assertEqual(ask_at([1] * many, [], CUT), [[-7]], many)
            self.assertEqual(ask_at(range(many), [], CUT), [[-7]], many)

    def test_seven_pieces_are_not_refused(self):
        self.assertEqual(ask_at([1] * 7, [], CUT), [[4] + [1] * 7])

    def test_pieces_that_have_been_taken_count(self):
        self.assertEqual(ask_at([1] * 8, [0], CUT), [[-7]])
        self.assertEqual(ask_at([1] * 12, list(range(12)), CUT), [[-7]])

    def test_all_is_as_it_was(self):
        self.assertEqual(
            ask_at([1, 2, 3, 4, 5, 6, 7, 8], [7, 6], CUT, GAINS, MAY, BACK, CUT, GAINS, BACK, BACK),
            [[-7], [8, 7, 0, 6], [2, 0, 5], [6], [-7], [8, 0, 1, 7], [7], [-9]])


if __name__ == "__main__":
    unittest.main()
