"""Answers to a list of calls on one pizza that two eaters share by turns."""

MOST_PIECES = 12
LARGEST_SIZE = 1000

CALL_PIZZA = 0
CALL_TAKE = 1
CALL_BACK = 2
CALL_GAINS = 3
CALL_MAY = 4
CALL_WORTH = 5

NOT_REFUSED = 0
DOES_NOT_FIT = -1
NOT_BESIDE_GAP = -2
ALREADY_TAKEN = -4
NONE_TAKEN = -9


def can_be_pizza(sizes):
    """Tell whether a pizza may have pieces of these sizes."""
    return 1 <= len(sizes) <= MOST_PIECES and max(sizes) <= LARGEST_SIZE


def row_worths(sizes, length):
    """Give, for each piece, the worth of the row of so many pieces that begins with it, going round.

    Such a row is eaten from its two ends, as what is left of a pizza is once a piece has been taken.
    """
    many = len(sizes)
    sums = [0 for size in sizes]
    worths = [0 for size in sizes]
    for last in range(length):
        sums = [sums[first] + sizes[(first + last) % many] for first in range(many)]
        # One gets all but what the other one gets of the row behind, so one leaves the row that is worth less.
        worths = [sums[first] - min(worths[first], worths[(first + 1) % many]) for first in range(many)]
    return worths


class Pizza:
    """The sizes of the pieces round a pizza, and which have been taken, in that order."""

    def __init__(self):
        self.sizes = [1]
        self.taken = []

    def renew(self, sizes):
        """Answer the call pizza."""
        if not can_be_pizza(sizes):
            return [DOES_NOT_FIT]
        self.sizes = list(sizes)
        self.taken = []
        return [sum(sizes)]

    def at_turn(self):
        """Give the eater who is at turn: 0 began, so it follows from how many pieces have been taken."""
        return len(self.taken) % 2

    def got(self, eater):
        """Give how much this eater has got so far."""
        return sum([self.sizes[piece] for piece in self.taken[eater::2]])

    def count_left(self):
        """Give how many pieces are left."""
        return len(self.sizes) - len(self.taken)

    def beside_gap(self, piece):
        """Tell whether a neighbour of this piece has been taken."""
        many = len(self.sizes)
        return (piece - 1) % many in self.taken or (piece + 1) % many in self.taken

    def refusal(self, piece):
        """Give why this piece may not be taken now, or NOT_REFUSED."""
        if piece >= len(self.sizes):
            return DOES_NOT_FIT
        if piece in self.taken:
            return ALREADY_TAKEN
        if len(self.taken) > 0 and not self.beside_gap(piece):
            return NOT_BESIDE_GAP
        return NOT_REFUSED

    def take(self, piece):
        """Answer the call take."""
        refused = self.refusal(piece)
        if refused != NOT_REFUSED:
            return [refused]
        eater = self.at_turn()
        self.taken.append(piece)
        return [eater, self.got(eater)]

    def back(self):
        """Answer the call back."""
        if len(self.taken) == 0:
            return [NONE_TAKEN]
        return [self.taken.pop()]

    def gains(self):
        """Answer the call gains."""
        return [self.got(0), self.got(1), self.at_turn(), self.count_left()]

    def may(self):
        """Answer the call may."""
        pieces = [piece for piece in range(len(self.sizes)) if self.refusal(piece) == NOT_REFUSED]
        return [len(pieces)] + pieces

    def first_left(self):
        """Give the piece with which the row of those left begins, behind the gap; 0 if there is no such row."""
        many = len(self.sizes)
        for piece in range(many):
            if piece not in self.taken and (piece - 1) % many in self.taken:
                return piece
        return 0

    def worth_to_one_at_turn(self):
        """Give what the one at turn gets of all that is left, if both do well."""
        if len(self.taken) == 0:
            # A whole pizza has no ends: any piece may go, and a row of all the others is left behind it.
            return sum(self.sizes) - min(row_worths(self.sizes, len(self.sizes) - 1))
        return row_worths(self.sizes, self.count_left())[self.first_left()]

    def worth(self):
        """Answer the call worth."""
        left = sum(self.sizes) - self.got(0) - self.got(1)
        own = self.worth_to_one_at_turn()
        return [own, left - own]


def call_length(calls, place):
    """Give how many numbers the call at this place has, its own number among them."""
    if calls[place] == CALL_PIZZA:
        return 2 + calls[place + 1]
    if calls[place] == CALL_TAKE:
        return 2
    return 1


def answer_call(pizza, call):
    """Answer one call, given as the list of its numbers."""
    number = call[0]
    if number == CALL_PIZZA:
        return pizza.renew(call[2:])
    if number == CALL_TAKE:
        return pizza.take(call[1])
    if number == CALL_BACK:
        return pizza.back()
    if number == CALL_GAINS:
        return pizza.gains()
    if number == CALL_MAY:
        return pizza.may()
    if number == CALL_WORTH:
        return pizza.worth()
    raise KeyError(number)


def answers(calls):
    """Answer all calls on a new pizza: for each, how many numbers are answered, then these."""
    pizza = Pizza()
    answered = []
    place = 0
    while place < len(calls):
        length = call_length(calls, place)
        answer = answer_call(pizza, calls[place:place + length])
        answered.append(len(answer))
        answered.extend(answer)
        place = place + length
    return answered
