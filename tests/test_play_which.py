import unittest

from tests.helper import (
    BACK, GAINS, GOOD, MAY, PLAY, TOP, WORTH, ask, ask_at, large_rests, numbers, plain_good, plain_plays,
    small_pizzas, small_rests, take, which)


def ask_each(sizes, way, places):
    """Give what which answers at each of these places, with no more than four of them in a line."""
    found = []
    for start in range(0, len(places), 4):
        found.extend(ask_at(sizes, way, *[which(place) for place in places[start:start + 4]]))
    return found


class Play(unittest.TestCase):
    def check(self, sizes, way):
        plays = plain_plays(sizes, way)
        self.assertEqual(ask_at(sizes, way, PLAY), [[len(plays), *plays[0]]], (sizes, way))

    def test_by_hand(self):
        self.assertEqual(ask(PLAY), [[1, 0]])
        self.assertEqual(ask_at([3, 8], [], PLAY), [[1, 1, 0]])
        # The large piece first; then the other one takes the 2.
        self.assertEqual(ask_at([1, 2, 9], [], PLAY), [[1, 2, 1, 0]])
        # Either end, then the large piece, then the other end.
        self.assertEqual(ask_at([0, 2, 9, 3], [0], PLAY), [[2, 1, 2, 3]])
        self.assertEqual(ask_at([5, 5, 5], [], PLAY), [[6, 0, 1, 2]])

    def test_against_a_plain_search(self):
        for sizes, way in small_pizzas(5) + small_rests(7) + large_rests():
            self.check(sizes, way)

    def test_equal_sizes(self):
        for size in (0, 1, 1000):
            self.assertEqual(ask_at([size] * 12, [], PLAY), [[12288, *range(12)]])
            self.assertEqual(ask_at([size] * 12, [4], PLAY), [[1024, 3, 2, 1, 0, 5, 6, 7, 8, 9, 10, 11]])
        for many in range(2, 13):
            self.assertEqual(ask_at([6] * many, [], PLAY), [[many * 2 ** (many - 2), *range(many)]])

    def test_the_one_that_is_left_alone(self):
        self.assertEqual(ask_at([1, 2], [0], PLAY), [[1, 1]])
        self.assertEqual(ask_at([1, 2, 0, 4], [3, 0, 1], PLAY), [[1, 2]])

    def test_nothing_left(self):
        self.assertEqual(ask(take(0), PLAY)[1], [1])
        self.assertEqual(ask_at([5, 6, 7], [2, 0, 1], PLAY), [[1]])
        self.assertEqual(ask_at([5] * 12, list(range(12)), PLAY), [[1]])

    def test_each_piece_of_the_first_one_is_the_lowest_good_one(self):
        sizes = numbers(9, 12, 3)
        play = ask_at(sizes, [], PLAY)[0][1:]
        for turn, piece in enumerate(play):
            self.assertEqual(plain_good(sizes, play[:turn])[0], piece)
            self.assertEqual(ask_at(sizes, play[:turn], GOOD)[0][1], piece)

    def test_asking_changes_nothing(self):
        self.assertEqual(
            ask_at([1, 2, 9, 4], [0], PLAY, PLAY, GAINS, MAY, WORTH, BACK, PLAY, GAINS, BACK),
            [[2, 1, 2, 3], [2, 1, 2, 3], [1, 0, 1, 3], [2, 1, 3], [6, 9], [0], [1, 2, 3, 1, 0], [0, 0, 0, 4], [-9]])


class Which(unittest.TestCase):
    def check(self, sizes, way):
        plays = plain_plays(sizes, way)
        many = len(plays)
        answered = ask_each(sizes, way, list(range(many)) + [many, many + 1, TOP])
        self.assertEqual(answered, [[0, *play] for play in plays] + [[-3]] * 3, (sizes, way))
        self.assertEqual(ask_at(sizes, way, PLAY), [[many, *answered[0][1:]]], (sizes, way))

    def test_by_hand(self):
        self.assertEqual(ask(which(0), which(1), which(TOP)), [[0, 0], [-3], [-3]])
        self.assertEqual(
            ask_at([0, 2, 9, 3], [0], which(0), which(1), which(2), which(3)),
            [[0, 1, 2, 3], [0, 3, 2, 1], [-3], [-3]])
        self.assertEqual(
            ask_each([5, 5, 5], [], range(7)),
            [[0, 0, 1, 2], [0, 0, 2, 1], [0, 1, 0, 2], [0, 1, 2, 0], [0, 2, 0, 1], [0, 2, 1, 0], [-3]])

    def test_each_one_against_a_plain_search(self):
        for sizes, way in small_pizzas(4) + small_rests(6):
            self.check(sizes, way)

    def test_seven_pieces(self):
        for start, below in ((1, 1), (2, 2), (3, 3), (4, 4), (5, 1001)):
            for way in ([], [3], [6, 0], [0, 1, 6]):
                self.check(numbers(start, 7, below), way)

    def test_twelve_pieces(self):
        for start, below in ((1, 1), (2, 2), (3, 2), (4, 3), (5, 1001)):
            sizes = numbers(start, 12, below)
            plays = plain_plays(sizes, [])
            many = len(plays)
            places = sorted({place * (many - 1) // 40 for place in range(41)})
            self.assertEqual(ask_each(sizes, [], places), [[0, *plays[place]] for place in places], sizes)
            self.assertEqual(ask_at(sizes, [], which(many), which(many + 1), which(TOP)), [[-3]] * 3, sizes)

    def test_last_one_of_equal_sizes(self):
        self.assertEqual(
            ask_at([9] * 12, [], which(12287), which(12288), which(12289), which(TOP)),
            [[0, 11, 10, 9, 8, 7, 6, 5, 4, 3, 2, 1, 0], [-3], [-3], [-3]])

    def test_nothing_left(self):
        self.assertEqual(ask(take(0), which(0), which(1), which(TOP))[1:], [[0], [-3], [-3]])
        self.assertEqual(ask_at([5, 6, 7], [2, 0, 1], which(0), which(1), which(2)), [[0], [-3], [-3]])

    def test_all_is_as_it_was(self):
        for place, answer in ((0, [0, 1, 2, 3]), (1, [0, 3, 2, 1]), (2, [-3]), (TOP, [-3])):
            self.assertEqual(
                ask_at([0, 2, 9, 3], [0], which(place), which(place), GAINS, MAY, WORTH, take(3), BACK, BACK, BACK),
                [answer, answer, [0, 0, 1, 3], [2, 1, 3], [5, 9], [1, 3], [3], [0], [-9]])


if __name__ == "__main__":
    unittest.main()
