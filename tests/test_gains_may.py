import unittest

from tests.helper import GAINS, MAY, ask, pizza, plain_may, take, ways_to_all_rests


class Gains(unittest.TestCase):
    def test_at_the_beginning(self):
        self.assertEqual(ask(GAINS), [[0, 0, 0, 1]])
        self.assertEqual(ask(pizza(5, 6, 7), GAINS), [[18], [0, 0, 0, 3]])

    def test_in_the_midst(self):
        self.assertEqual(
            ask(pizza(1, 2, 4, 8, 16), take(4), GAINS, take(0), GAINS, take(1), GAINS),
            [[31], [0, 16], [16, 0, 1, 4], [1, 1], [16, 1, 0, 3], [0, 18], [18, 1, 1, 2]])

    def test_when_nothing_is_left(self):
        self.assertEqual(ask(pizza(1, 2, 4), take(0), take(1), take(2), GAINS)[4], [5, 2, 1, 0])
        self.assertEqual(ask(pizza(3, 1000), take(0), take(1), GAINS)[3], [3, 1000, 0, 0])

    def test_at_each_rest(self):
        for many in range(1, 8):
            sizes = [2 ** piece for piece in range(many)]
            for way in ways_to_all_rests(many):
                asked = [0, 0, len(way) % 2, many - len(way)]
                for turn, piece in enumerate(way):
                    asked[turn % 2] += sizes[piece]
                self.assertEqual(ask(pizza(*sizes), *[take(piece) for piece in way], GAINS)[-1], asked)

    def test_asking_changes_nothing(self):
        self.assertEqual(ask(pizza(1, 2), GAINS, GAINS, take(1), GAINS, GAINS)[4:], [[2, 0, 1, 1], [2, 0, 1, 1]])


class May(unittest.TestCase):
    def test_all_when_none_has_been_taken(self):
        for many in range(1, 13):
            self.assertEqual(ask(pizza(*[0] * many), MAY)[1], [many, *range(many)])

    def test_the_two_beside_the_gap(self):
        self.assertEqual(ask(pizza(1, 2, 3, 4, 5), take(2), MAY, take(3), MAY)[2::2], [[2, 1, 3], [2, 1, 4]])

    def test_rising_round_the_end(self):
        self.assertEqual(ask(pizza(1, 2, 3, 4, 5), take(0), MAY, take(4), MAY)[2::2], [[2, 1, 4], [2, 1, 3]])

    def test_the_one_that_is_left_alone(self):
        self.assertEqual(ask(pizza(1, 2), take(0), MAY)[2], [1, 1])
        self.assertEqual(ask(pizza(1, 2), take(1), MAY)[2], [1, 0])
        self.assertEqual(ask(pizza(1, 2, 3, 4), take(2), take(3), take(0), MAY)[4], [1, 1])

    def test_none_when_nothing_is_left(self):
        self.assertEqual(ask(take(0), MAY)[1], [0])
        self.assertEqual(ask(pizza(1, 2, 3), take(1), take(0), take(2), MAY)[4], [0])

    def test_at_each_rest(self):
        for many in range(1, 13):
            for way in ways_to_all_rests(many):
                pieces = plain_may(many, way)
                answer = ask(pizza(*[3] * many), *[take(piece) for piece in way], MAY)[-1]
                self.assertEqual(answer, [len(pieces), *pieces], (many, way))

    def test_asking_changes_nothing(self):
        self.assertEqual(ask(pizza(1, 2), MAY, MAY, GAINS), [[3], [2, 0, 1], [2, 0, 1], [0, 0, 0, 2]])


if __name__ == "__main__":
    unittest.main()
