import contextlib
import io
import unittest

from pizzaturns.slices import answers
from tests.helper import TOP, parts, plain_cut, plain_gain, plain_good, plain_may, plain_plays, plain_worth

# pizza 5 1 2, may, take 3, take 1, gains, worth, pizza without a piece, back, back, take 2, take 2, gains,
# good, play, which 0, which 1, gain 0, gain 2, gain 3, cut
MIXED = (
    [0, 3, 5, 1, 2] + [4] + [1, 3] + [1, 1] + [3] + [5] + [0, 0] + [2] + [2] + [1, 2] + [1, 2] + [3]
    + [6] + [7] + [8, 0] + [8, 1] + [9, 0] + [9, 2] + [9, 3] + [10])
MIXED_ANSWERS = (
    [1, 8] + [4, 3, 0, 1, 2] + [1, -1] + [2, 0, 1] + [4, 1, 0, 1, 2] + [2, 5, 2] + [1, -1] + [1, 1] + [1, -9]
    + [2, 0, 2] + [1, -4] + [4, 2, 0, 1, 2]
    + [2, 1, 0] + [3, 1, 0, 1] + [3, 0, 0, 1] + [1, -3] + [1, 5] + [1, -4] + [1, -1] + [4, 6, 1, 2, 5])
NAMES = ("pizza", "take", "back", "gains", "may", "worth", "good", "play", "which", "gain", "cut")
SEARCHING = ("play", "which", "cut")


class Model:
    """The calls once more, by the document's words alone, to be set against the program."""

    def __init__(self):
        self.sizes = [1]
        self.way = []

    def pizza(self, sizes):
        if len(sizes) not in range(1, 13) or any(size not in range(1001) for size in sizes):
            return [-1]
        self.sizes = sizes
        self.way = []
        return [sum(sizes)]

    def refusals(self, piece):
        if piece not in range(len(self.sizes)):
            return [-1]
        if piece in self.way:
            return [-4]
        if piece not in plain_may(len(self.sizes), self.way):
            return [-2]
        return []

    def take(self, piece):
        if self.refusals(piece):
            return self.refusals(piece)
        self.way = self.way + [piece]
        return [1 - len(self.way) % 2, sum(self.sizes[other] for other in self.way[::-1][::2])]

    def back(self):
        if not self.way:
            return [-9]
        piece = self.way[-1]
        self.way = self.way[:-1]
        return [piece]

    def gains(self):
        shares = [0, 0]
        for turn, piece in enumerate(self.way):
            shares[turn % 2] += self.sizes[piece]
        return [*shares, len(self.way) % 2, len(self.sizes) - len(self.way)]

    def may(self):
        pieces = plain_may(len(self.sizes), self.way)
        return [len(pieces), *pieces]

    def worth(self):
        return list(plain_worth(self.sizes, self.way))

    def good(self):
        pieces = plain_good(self.sizes, self.way)
        return [len(pieces), *pieces]

    def play(self):
        plays = plain_plays(self.sizes, self.way)
        return [len(plays), *plays[0]]

    def which(self, place):
        plays = plain_plays(self.sizes, self.way)
        return [0, *plays[place]] if place < len(plays) else [-3]

    def gain(self, piece):
        return self.refusals(piece) or [plain_gain(self.sizes, self.way, piece)]

    def cut(self):
        return plain_cut(tuple(sorted(self.sizes))) if len(self.sizes) < 8 else [-7]


class Mixer:
    """Rows of calls, mixed but always the same for the same start."""

    def __init__(self, start):
        self.value = start

    def below(self, end):
        self.value = (self.value * 1103515245 + 12345) % 2147483648
        return (self.value >> 8) % end

    def sizes(self):
        many = self.below(8)
        if self.below(6) == 0:
            many = self.below(41)
        # Few different sizes make many good plays.
        end = (2, 3, 1001)[self.below(3)]
        sizes = [self.below(end) for place in range(many)]
        if self.below(6) == 0 and many > 0:
            sizes[self.below(many)] = (1000, 1001, TOP)[self.below(3)]
        return sizes

    def call(self):
        """Give a call's name and the numbers that stand behind its own one."""
        drawn = self.below(20)
        if drawn == 0:
            sizes = self.sizes()
            return "pizza", [len(sizes), *sizes]
        if drawn < 9:
            return ("gain" if drawn < 3 else "take"), [self.piece()]
        if drawn == 9:
            return "which", [TOP - self.below(12) if self.below(8) == 0 else self.below(12)]
        return ("back", "back", "gains", "gains", "may", "worth", "worth", "good", "play", "cut")[drawn - 10], []

    def piece(self):
        return TOP - self.below(12) if self.below(20) == 0 else self.below(8)

    def line(self):
        """Give forty calls, no more than four of them of those that search through plays and rows."""
        calls = [("pizza", [6, 5, 4, 3, 2, 1, 0])]
        searching = 0
        while len(calls) < 40:
            name, given = self.call()
            if name in SEARCHING:
                searching += 1
            if name not in SEARCHING or searching <= 4:
                calls.append((name, given))
        return calls


class Answers(unittest.TestCase):
    def test_layout_with_refusals_among_the_answers(self):
        self.assertEqual(answers(list(MIXED)), MIXED_ANSWERS)

    def test_a_refusal_is_alone(self):
        self.assertEqual(answers([0, 0]), [1, -1])
        self.assertEqual(answers([2]), [1, -9])
        self.assertEqual(answers([1, 1]), [1, -1])
        self.assertEqual(answers([1, 0, 1, 0]), [2, 0, 1, 1, -4])
        self.assertEqual(answers([0, 4, 1, 1, 1, 1, 1, 0, 1, 2]), [1, 4, 2, 0, 1, 1, -2])
        self.assertEqual(answers([0, 4, 1, 1, 1, 1, 1, 0, 9, 2, 9, 0, 9, 4]), [1, 4, 2, 0, 1, 1, -2, 1, -4, 1, -1])
        self.assertEqual(answers([8, 1, 8, TOP]), [1, -3, 1, -3])
        self.assertEqual(answers([0, 8, 1, 1, 1, 1, 1, 1, 1, 1, 10]), [1, 8, 1, -7])

    def test_each_call_alone(self):
        self.assertEqual(answers([0, 2, 7, 8]), [1, 15])
        self.assertEqual(answers([1, 0]), [2, 0, 1])
        self.assertEqual(answers([3]), [4, 0, 0, 0, 1])
        self.assertEqual(answers([4]), [2, 1, 0])
        self.assertEqual(answers([5]), [2, 1, 0])
        self.assertEqual(answers([6]), [2, 1, 0])
        self.assertEqual(answers([7]), [2, 1, 0])
        self.assertEqual(answers([8, 0]), [2, 0, 0])
        self.assertEqual(answers([9, 0]), [1, 1])
        self.assertEqual(answers([10]), [2, 1, 1])

    def test_when_nothing_is_left(self):
        self.assertEqual(
            answers([1, 0, 6, 7, 8, 0, 8, 1, 9, 0, 10, 5]),
            [2, 0, 1] + [1, 0] + [1, 1] + [1, 0] + [1, -3] + [1, -4] + [2, 1, 1] + [2, 0, 0])

    def test_numbers_that_look_like_calls(self):
        self.assertEqual(answers([8, 8, 9, 9, 9, 0, 8, 0, 3]), [1, -3, 1, -1, 1, 1, 2, 0, 0, 4, 0, 0, 0, 1])
        self.assertEqual(answers([0, 5, 6, 7, 8, 9, 10, 9, 4, 3]), [1, 40, 1, 24, 4, 0, 0, 0, 5])

    def test_sizes_that_look_like_calls(self):
        self.assertEqual(answers([0, 6, 0, 1, 2, 3, 4, 5, 3]), [1, 15, 4, 0, 0, 0, 6])
        self.assertEqual(answers([0, 13, 0, 1, 2, 3, 4, 5, 0, 1, 2, 3, 4, 5, 0, 3]), [1, -1, 4, 0, 0, 0, 1])

    def test_the_list_handed_in_is_the_same_afterwards(self):
        calls = list(MIXED)
        answers(calls)
        self.assertEqual(calls, MIXED)

    def test_the_list_handed_in_is_not_given_back(self):
        calls = list(MIXED)
        answered = answers(calls)
        answered.clear()
        self.assertEqual(calls, MIXED)

    def test_nothing_is_kept(self):
        first = answers(list(MIXED))
        first_again = list(first)
        self.assertEqual(answers([3, 2, 4]), [4, 0, 0, 0, 1, 1, -9, 2, 1, 0])
        self.assertEqual(answers(list(MIXED)), first_again)
        self.assertEqual(first, first_again)
        first.clear()
        self.assertEqual(answers(list(MIXED)), first_again)

    def test_forty_calls(self):
        self.assertEqual(answers([3] * 40), [4, 0, 0, 0, 1] * 40)
        self.assertEqual(answers([1, 0, 2] * 20), [2, 0, 1, 1, 0] * 20)

    def test_forty_calls_of_forty_sizes(self):
        self.assertEqual(answers(([0, 40] + [TOP] * 40) * 40), [1, -1] * 40)

    def test_forty_calls_with_twelve_pieces(self):
        sizes = [7] * 12
        calls = [0, 12, *sizes] + [7] + [8, 12287] + [8, 12288] + [10] + [6] * 18 + [9, 11] * 17
        asked = [
            [84], [12288, *range(12)], [0, *range(11, -1, -1)], [-3], [-7], *[[12, *range(12)]] * 18, *[[42]] * 17]
        self.assertEqual(parts(answers(calls)), asked)
        self.assertEqual(len(asked), 40)

    def test_forty_calls_with_seven_pieces(self):
        sizes = [3, 1, 4, 0, 5, 9, 1000]
        calls = [0, 7, *sizes] + [10] * 2 + [7] + [8, 0] + [6] * 18 + [9, 6] * 17
        cut = plain_cut(tuple(sizes))
        plays = plain_plays(sizes, [])
        good = plain_good(sizes, [])
        asked = [
            [1022], cut, cut, [len(plays), *plays[0]], [0, *plays[0]], *[[len(good), *good]] * 18,
            *[[plain_gain(sizes, [], 6)]] * 17]
        self.assertEqual(parts(answers(calls)), asked)
        self.assertEqual(len(asked), 40)

    def test_any_other_call_number(self):
        for number in (11, 12, TOP):
            self.assertRaises(KeyError, answers, [number])

    def test_whole_numbers_alone(self):
        answered = answers(list(MIXED))
        self.assertIs(type(answered), list)
        self.assertEqual({type(number) for number in answered}, {int})

    def test_nothing_is_printed(self):
        out = io.StringIO()
        with contextlib.redirect_stdout(out), contextlib.redirect_stderr(out):
            answers(list(MIXED))
        self.assertEqual(out.getvalue(), "")

    def test_mixed_rows_against_the_words(self):
        met = {name: 0 for name in NAMES}
        for start in range(300):
            model = Model()
            calls = []
            asked = []
            for name, given in Mixer(start).line():
                calls.extend([NAMES.index(name), *given])
                asked.append(model.pizza(given[1:]) if name == "pizza" else getattr(model, name)(*given))
                met[name] += 1
            handed_in = list(calls)
            self.assertEqual(parts(answers(calls)), asked, handed_in)
            self.assertEqual(calls, handed_in)
        self.assertGreater(min(met.values()), 200, met)


if __name__ == "__main__":
    unittest.main()
