import contextlib
import io
import unittest

from pizzaturns.slices import answers
from tests.helper import parts, plain_may, plain_worth

TOP = 4294967295
# pizza 5 1 2, may, take 3, take 1, gains, worth, pizza without a piece, back, back, take 2, take 2, gains
MIXED = [0, 3, 5, 1, 2] + [4] + [1, 3] + [1, 1] + [3] + [5] + [0, 0] + [2] + [2] + [1, 2] + [1, 2] + [3]
MIXED_ANSWERS = (
    [1, 8] + [4, 3, 0, 1, 2] + [1, -1] + [2, 0, 1] + [4, 1, 0, 1, 2] + [2, 5, 2] + [1, -1] + [1, 1] + [1, -9]
    + [2, 0, 2] + [1, -4] + [4, 2, 0, 1, 2])


class Model:
    """The calls once more, by the document's words alone, to be set against the program."""

    def __init__(self):
        self.sizes = [1]
        self.way = []

    def pizza(self, sizes):
        if len(sizes) not in range(1, 13) or any(size not in range(1001) for size in sizes):
            return [-1]
        self.sizes = sizes
        self.way = []
        return [sum(sizes)]

    def take(self, piece):
        if piece not in range(len(self.sizes)):
            return [-1]
        if piece in self.way:
            return [-4]
        if piece not in plain_may(len(self.sizes), self.way):
            return [-2]
        self.way = self.way + [piece]
        return [1 - len(self.way) % 2, sum(self.sizes[other] for other in self.way[::-1][::2])]

    def back(self):
        if not self.way:
            return [-9]
        piece = self.way[-1]
        self.way = self.way[:-1]
        return [piece]

    def gains(self):
        shares = [0, 0]
        for turn, piece in enumerate(self.way):
            shares[turn % 2] += self.sizes[piece]
        return [*shares, len(self.way) % 2, len(self.sizes) - len(self.way)]

    def may(self):
        pieces = plain_may(len(self.sizes), self.way)
        return [len(pieces), *pieces]

    def worth(self):
        return list(plain_worth(self.sizes, self.way))


class Mixer:
    """Rows of calls, mixed but always the same for the same start."""

    def __init__(self, start):
        self.value = start

    def below(self, end):
        self.value = (self.value * 1103515245 + 12345) % 2147483648
        return (self.value >> 8) % end

    def sizes(self):
        many = self.below(8)
        if self.below(6) == 0:
            many = self.below(41)
        sizes = [self.below(1001) for place in range(many)]
        if self.below(6) == 0 and many > 0:
            sizes[self.below(many)] = (1000, 1001, TOP)[self.below(3)]
        return sizes

    def call(self):
        """Give a call's name and what stands behind its number: a piece, sizes, or None."""
        drawn = self.below(16)
        if drawn == 0:
            return "pizza", self.sizes()
        if drawn < 9:
            return "take", TOP - self.below(12) if self.below(20) == 0 else self.below(8)
        return ("back", "back", "gains", "gains", "may", "worth", "worth")[drawn - 9], None


class Answers(unittest.TestCase):
    def test_layout_with_refusals_among_the_answers(self):
        self.assertEqual(answers(list(MIXED)), MIXED_ANSWERS)

    def test_a_refusal_is_alone(self):
        self.assertEqual(answers([0, 0]), [1, -1])
        self.assertEqual(answers([2]), [1, -9])
        self.assertEqual(answers([1, 1]), [1, -1])
        self.assertEqual(answers([1, 0, 1, 0]), [2, 0, 1, 1, -4])
        self.assertEqual(answers([0, 4, 1, 1, 1, 1, 1, 0, 1, 2]), [1, 4, 2, 0, 1, 1, -2])

    def test_each_call_alone(self):
        self.assertEqual(answers([0, 2, 7, 8]), [1, 15])
        self.assertEqual(answers([1, 0]), [2, 0, 1])
        self.assertEqual(answers([3]), [4, 0, 0, 0, 1])
        self.assertEqual(answers([4]), [2, 1, 0])
        self.assertEqual(answers([5]), [2, 1, 0])

    def test_sizes_that_look_like_calls(self):
        self.assertEqual(answers([0, 6, 0, 1, 2, 3, 4, 5, 3]), [1, 15, 4, 0, 0, 0, 6])
        self.assertEqual(answers([0, 13, 0, 1, 2, 3, 4, 5, 0, 1, 2, 3, 4, 5, 0, 3]), [1, -1, 4, 0, 0, 0, 1])

    def test_the_list_handed_in_is_the_same_afterwards(self):
        calls = list(MIXED)
        answers(calls)
        self.assertEqual(calls, MIXED)

    def test_the_list_handed_in_is_not_given_back(self):
        calls = list(MIXED)
        answered = answers(calls)
        answered.clear()
        self.assertEqual(calls, MIXED)

    def test_nothing_is_kept(self):
        first = answers(list(MIXED))
        first_again = list(first)
        self.assertEqual(answers([3, 2, 4]), [4, 0, 0, 0, 1, 1, -9, 2, 1, 0])
        self.assertEqual(answers(list(MIXED)), first_again)
        self.assertEqual(first, first_again)
        first.clear()
        self.assertEqual(answers(list(MIXED)), first_again)

    def test_forty_calls(self):
        self.assertEqual(answers([3] * 40), [4, 0, 0, 0, 1] * 40)
        self.assertEqual(answers([1, 0, 2] * 20), [2, 0, 1, 1, 0] * 20)

    def test_forty_calls_of_forty_sizes(self):
        self.assertEqual(answers(([0, 40] + [TOP] * 40) * 40), [1, -1] * 40)

    def test_whole_numbers_alone(self):
        answered = answers(list(MIXED))
        self.assertIs(type(answered), list)
        self.assertEqual({type(number) for number in answered}, {int})

    def test_nothing_is_printed(self):
        out = io.StringIO()
        with contextlib.redirect_stdout(out), contextlib.redirect_stderr(out):
            answers(list(MIXED))
        self.assertEqual(out.getvalue(), "")

    def test_mixed_rows_against_the_words(self):
        order = ("pizza", "take", "back", "gains", "may", "worth")
        for start in range(300):
            mixer = Mixer(start)
            model = Model()
            calls = [0, 6, 5, 4, 3, 2, 1, 0]
            asked = [model.pizza([5, 4, 3, 2, 1, 0])]
            for turn in range(39):
                name, given = mixer.call()
                calls.append(order.index(name))
                if name == "pizza":
                    calls.extend([len(given), *given])
                if name == "take":
                    calls.append(given)
                asked.append(getattr(model, name)() if given is None else getattr(model, name)(given))
            self.assertEqual(parts(answers(calls)), asked, calls)


if __name__ == "__main__":
    unittest.main()
