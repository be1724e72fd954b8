import unittest

from tests.helper import BACK, GAINS, MAY, TOP, ask, pizza, plain_may, take, ways_to_all_rests


class Take(unittest.TestCase):
    def test_any_piece_first(self):
        for many in range(1, 13):
            sizes = [100 + piece for piece in range(many)]
            for piece in range(many):
                self.assertEqual(ask(pizza(*sizes), take(piece))[1], [0, 100 + piece])

    def test_turns_and_all_together(self):
        self.assertEqual(
            ask(pizza(1, 2, 4, 8, 16), take(2), take(3), take(1), take(4), take(0)),
            [[31], [0, 4], [1, 8], [0, 6], [1, 24], [0, 7]])

    def test_round_from_the_last_piece_to_piece_0(self):
        self.assertEqual(ask(pizza(1, 2, 4, 8), take(3), take(0), take(1)), [[15], [0, 8], [1, 1], [0, 10]])

    def test_round_from_piece_0_to_the_last_piece(self):
        self.assertEqual(ask(pizza(1, 2, 4, 8), take(0), take(3), take(2)), [[15], [0, 1], [1, 8], [0, 5]])

    def test_pieces_of_size_0(self):
        self.assertEqual(ask(pizza(0, 0), take(1), take(0)), [[0], [0, 0], [1, 0]])


class TakeRefused(unittest.TestCase):
    def test_no_such_piece(self):
        for many in (1, 2, 5, 12):
            for piece in (many, many + 1, 2 * many, 13, 1000, 65536, 4294967284, TOP):
                self.assertEqual(ask(pizza(*[1] * many), take(piece))[1], [-1], (many, piece))
                self.assertEqual(ask(pizza(*[1] * many), take(0), take(piece))[2], [-1], (many, piece))

    def test_has_been_taken(self):
        self.assertEqual(ask(pizza(1, 2, 3, 4, 5), take(2), take(2))[2], [-4])

    def test_taken_by_whomever_and_whenever(self):
        for piece in (1, 2, 3):
            self.assertEqual(ask(pizza(1, 2, 3, 4, 5), take(1), take(2), take(3), take(piece))[4], [-4])

    def test_taken_and_no_longer_beside_one_that_is_left(self):
        self.assertEqual(ask(pizza(1, 2, 3, 4, 5), take(2), take(1), take(3), take(2))[4], [-4])

    def test_taken_with_nothing_left(self):
        self.assertEqual(ask(pizza(6), take(0), take(0), take(1)), [[6], [0, 6], [-4], [-1]])
        self.assertEqual(ask(pizza(6, 7), take(0), take(1), take(0), take(1), take(2))[3:], [[-4], [-4], [-1]])

    def test_not_beside_the_gap(self):
        self.assertEqual(ask(pizza(1, 2, 3, 4, 5), take(0), take(2))[2], [-2])
        self.assertEqual(ask(pizza(1, 2, 3, 4, 5), take(0), take(3))[2], [-2])
        self.assertEqual(ask(pizza(1, 2, 3, 4), take(0), take(2))[2], [-2])

    def test_each_piece_at_each_rest(self):
        for many in range(1, 8):
            for way in ways_to_all_rests(many):
                for piece in range(many + 2):
                    answer = ask(pizza(*[1] * many), *[take(other) for other in way], take(piece))[-1]
                    self.assertEqual(answer, self.asked(many, way, piece), (many, way, piece))

    def asked(self, many, way, piece):
        if piece >= many:
            return [-1]
        if piece in way:
            return [-4]
        if piece not in plain_may(many, way):
            return [-2]
        return [len(way) % 2, len(way) // 2 + 1]

    def test_all_is_as_it_was(self):
        for refused, answer in ((5, -1), (TOP, -1), (1, -4), (3, -2), (4, -2)):
            self.assertEqual(
                ask(pizza(1, 2, 4, 8, 16), take(1), take(refused), GAINS, MAY, take(0), BACK, BACK, BACK),
                [[31], [0, 2], [answer], [2, 0, 1, 4], [2, 0, 2], [1, 1], [0], [1], [-9]])


class Back(unittest.TestCase):
    def test_none_has_been_taken(self):
        self.assertEqual(ask(pizza(1, 2), BACK, BACK, GAINS, take(1)), [[3], [-9], [-9], [0, 0, 0, 2], [0, 2]])

    def test_the_last_ones_one_behind_another(self):
        self.assertEqual(
            ask(pizza(1, 2, 4, 8), take(2), take(3), take(1), take(0), BACK, BACK, BACK, BACK, BACK)[5:],
            [[0], [1], [3], [2], [-9]])

    def test_who_is_at_turn_and_how_much_they_have(self):
        self.assertEqual(
            ask(pizza(1, 2, 4, 8), take(2), take(3), take(1), BACK, GAINS, BACK, GAINS, BACK, GAINS)[4:],
            [[1], [4, 8, 0, 2], [3], [4, 0, 1, 3], [2], [0, 0, 0, 4]])

    def test_the_piece_may_be_taken_again(self):
        self.assertEqual(
            ask(pizza(1, 2, 4, 8), take(2), take(3), BACK, MAY, take(3), BACK, take(1))[3:],
            [[3], [2, 1, 3], [1, 8], [3], [1, 2]])

    def test_any_piece_is_first_again(self):
        self.assertEqual(ask(pizza(1, 2, 4, 8), take(2), BACK, MAY, take(0))[2:], [[2], [4, 0, 1, 2, 3], [0, 1]])

    def test_a_new_pizza_has_nothing_to_put_back(self):
        self.assertEqual(ask(pizza(1, 2), take(0), pizza(3, 4), BACK)[3], [-9])


if __name__ == "__main__":
    unittest.main()
