import unittest

from tests.helper import (
    BACK, GAINS, GOOD, MAY, TOP, WORTH, ask, ask_at, gain, large_rests, numbers, pizza, plain_gain, plain_good,
    plain_may, small_pizzas, small_rests, take, ways_to_all_rests)


class Good(unittest.TestCase):
    def check(self, sizes, way):
        asked = plain_good(sizes, way)
        self.assertEqual(ask_at(sizes, way, GOOD), [[len(asked), *asked]], (sizes, way))

    def test_by_hand(self):
        self.assertEqual(ask(GOOD), [[1, 0]])
        self.assertEqual(ask_at([3, 8], [], GOOD), [[1, 1]])
        self.assertEqual(ask_at([1, 2, 9], [], GOOD), [[1, 2]])
        # In a row 2, 9, 3 one gets 5 with either end: the large piece goes to the other one.
        self.assertEqual(ask_at([0, 2, 9, 3], [0], GOOD), [[2, 1, 3]])
        self.assertEqual(ask_at([0, 2, 3, 9], [0], GOOD), [[1, 3]])

    def test_the_smaller_end_may_be_the_good_one(self):
        # Of a row 4, 9, 1, 3 one takes the 3 and gets the 9 too, whichever end goes then.
        self.assertEqual(ask_at([0, 4, 9, 1, 3], [0], GOOD, WORTH), [[1, 4], [12, 5]])

    def test_against_a_plain_search(self):
        for sizes, way in small_pizzas(5) + small_rests(7) + large_rests():
            self.check(sizes, way)

    def test_equal_sizes(self):
        for many in range(1, 13):
            self.assertEqual(ask_at([7] * many, [], GOOD), [[many, *range(many)]])
        self.assertEqual(ask_at([7] * 12, [3, 4], GOOD), [[2, 2, 5]])

    def test_the_one_that_is_left_alone(self):
        self.assertEqual(ask_at([1, 2], [0], GOOD), [[1, 1]])
        self.assertEqual(ask_at([1, 2, 0, 4], [3, 0, 1], GOOD), [[1, 2]])

    def test_none_when_nothing_is_left(self):
        self.assertEqual(ask(take(0), GOOD)[1], [0])
        self.assertEqual(ask_at([1, 2, 3], [1, 0, 2], GOOD), [[0]])

    def test_asking_changes_nothing(self):
        self.assertEqual(
            ask_at([1, 2, 9], [0], GOOD, GOOD, GAINS, MAY, BACK, GOOD, GAINS),
            [[1, 2], [1, 2], [1, 0, 1, 2], [2, 1, 2], [0], [1, 2], [0, 0, 0, 3]])


class Gain(unittest.TestCase):
    def test_by_hand(self):
        self.assertEqual(ask(gain(0)), [[1]])
        self.assertEqual(ask_at([3, 8], [], gain(0), gain(1)), [[3], [8]])
        self.assertEqual(ask_at([1, 2, 9], [], gain(0), gain(1), gain(2)), [[3], [3], [10]])
        self.assertEqual(ask_at([0, 2, 3, 9], [0], gain(1), gain(3)), [[5], [11]])

    def test_of_what_is_left_alone(self):
        self.assertEqual(ask_at([1000, 1, 1], [0], gain(1), gain(2)), [[1], [1]])
        self.assertEqual(ask_at([100, 10, 1], [0, 1], gain(2)), [[1]])

    def check(self, sizes, way):
        pieces = plain_may(len(sizes), way)
        answered = ask_at(sizes, way, *[gain(piece) for piece in pieces], WORTH, GOOD)
        gains = [answer[0] for answer in answered[:-2]]
        self.assertEqual([len(answer) for answer in answered[:-2]], [1] * len(pieces))
        self.assertEqual(gains, [plain_gain(sizes, way, piece) for piece in pieces], (sizes, way))
        most = max(gains, default=0)
        self.assertEqual(answered[-2][0], most, (sizes, way))
        self.assertEqual(answered[-1][1:], [piece for piece, own in zip(pieces, gains) if own == most], (sizes, way))

    def test_each_piece_against_a_plain_search(self):
        for sizes, way in small_rests(7) + large_rests():
            self.check(sizes, way)

    def test_nothing_is_taken(self):
        self.assertEqual(
            ask_at([1, 2, 9], [0], gain(2), gain(2), GAINS, MAY, BACK, gain(2), GAINS, BACK),
            [[9], [9], [1, 0, 1, 2], [2, 1, 2], [0], [10], [0, 0, 0, 3], [-9]])


class GainRefused(unittest.TestCase):
    def test_no_such_piece(self):
        for many in (1, 2, 5, 12):
            for piece in (many, many + 1, 2 * many, 13, 1000, 65536, 4294967284, TOP):
                self.assertEqual(ask_at([1] * many, [], gain(piece)), [[-1]], (many, piece))
                self.assertEqual(ask_at([1] * many, [0], gain(piece)), [[-1]], (many, piece))

    def test_has_been_taken(self):
        # Piece 2 isn't beside another that's been taken either: the refusal told first is answered.
        self.assertEqual(ask_at([1, 2, 3, 4, 5], [2], gain(2)), [[-4]])
        self.assertEqual(ask_at([1, 2, 3, 4, 5], [2, 1, 3], gain(1), gain(2), gain(3)), [[-4], [-4], [-4]])

    def test_not_beside_the_gap(self):
        self.assertEqual(ask_at([1, 2, 3, 4, 5], [0], gain(2), gain(3)), [[-2], [-2]])
        self.assertEqual(ask_at([1, 2, 3, 4], [0], gain(2)), [[-2]])

    def test_with_nothing_left(self):
        self.assertEqual(ask(take(0), gain(0), gain(1), gain(TOP))[1:], [[-4], [-1], [-1]])
        self.assertEqual(ask_at([6, 7], [0, 1], gain(0), gain(1), gain(2)), [[-4], [-4], [-1]])

    def test_each_piece_at_each_rest(self):
        for many in range(1, 8):
            sizes = numbers(many, many, 9)
            for way in ways_to_all_rests(many):
                answered = ask_at(sizes, way, *[gain(piece) for piece in range(many + 2)])
                self.assertEqual(answered, [self.asked(sizes, way, piece) for piece in range(many + 2)], way)

    def asked(self, sizes, way, piece):
        if piece >= len(sizes):
            return [-1]
        if piece in way:
            return [-4]
        if piece not in plain_may(len(sizes), way):
            return [-2]
        return [plain_gain(sizes, way, piece)]

    def test_all_is_as_it_was(self):
        for refused, answer in ((5, -1), (TOP, -1), (1, -4), (3, -2), (4, -2)):
            self.assertEqual(
                ask(pizza(1, 2, 4, 8, 16), take(1), gain(refused), GAINS, MAY, take(0), BACK, BACK, BACK),
                [[31], [0, 2], [answer], [2, 0, 1, 4], [2, 0, 2], [1, 1], [0], [1], [-9]])


if __name__ == "__main__":
    unittest.main()
