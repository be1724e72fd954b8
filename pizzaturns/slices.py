"""Answers to a list of calls on one pizza that two eaters share by turns."""

MOST_PIECES = 12
LARGEST_SIZE = 1000
MOST_PIECES_TO_CUT = 7

CALL_PIZZA = 0
CALL_TAKE = 1
CALL_BACK = 2
CALL_GAINS = 3
CALL_MAY = 4
CALL_WORTH = 5
CALL_GOOD = 6
CALL_PLAY = 7
CALL_WHICH = 8
CALL_GAIN = 9
CALL_CUT = 10

NOT_REFUSED = 0
DOES_NOT_FIT = -1
NOT_BESIDE_GAP = -2
NO_SUCH_PLAY = -3
ALREADY_TAKEN = -4
TOO_MANY_TO_CUT = -7
NONE_TAKEN = -9


def can_be_pizza(sizes):
    """Tell whether a pizza may have pieces of these sizes."""
    return 1 <= len(sizes) <= MOST_PIECES and max(sizes) <= LARGEST_SIZE


def row_worths(sizes, length):
    """Give, for each piece, the worth of the row of so many pieces that begins with it, going round.

    Such a row is eaten from its two ends, as what is left of a pizza is once a piece has been taken.
    """
    many = len(sizes)
    sums = [0 for size in sizes]
    worths = [0 for size in sizes]
    for last in range(length):
        sums = [sums[first] + sizes[(first + last) % many] for first in range(many)]
        # One gets all but what the other one gets of the row behind, so one leaves the row that is worth less.
        worths = [sums[first] - min(worths[first], worths[(first + 1) % many]) for first in range(many)]
    return worths


def row_plays(sizes, length):
    """Give, for each piece, how many good plays the row of so many pieces that begins with it has, going round."""
    many = len(sizes)
    # A row of one piece has one play, though that piece is at both its ends.
    plays = [1 for size in sizes]
    for shorter in range(1, length):
        worths = row_worths(sizes, shorter)
        longer_plays = [0 for size in sizes]
        for first in range(many):
            second = (first + 1) % many
            # An end is good if the row behind it is worth no more to the other one than that behind the other end.
            if worths[second] <= worths[first]:
                longer_plays[first] = longer_plays[first] + plays[second]
            if worths[first] <= worths[second]:
                longer_plays[first] = longer_plays[first] + plays[first]
        plays = longer_plays
    return plays


def whole_worth(sizes):
    """Give what the one who begins gets of a whole pizza, if both do well."""
    # A whole pizza has no ends: any piece may go, and a row of all the others is left behind it.
    return sum(sizes) - min(row_worths(sizes, len(sizes) - 1))


def next_row(row):
    """Give the row of the same sizes that comes next in order; an empty one behind the last."""
    place = len(row) - 2
    while place >= 0 and row[place] >= row[place + 1]:
        place = place - 1
    if place < 0:
        return []
    larger = len(row) - 1
    while row[larger] <= row[place]:
        larger = larger - 1
    following = list(row)
    following[place] = row[larger]
    following[larger] = row[place]
    # The sizes behind this place still fall, as they did; turned round they are their first row.
    return following[:place + 1] + list(reversed(following[place + 1:]))


def meanest_row(sizes):
    """Give the first row of these sizes, in order, of which the one who begins gets the least."""
    lowest = sorted(sizes)
    found = lowest
    least = whole_worth(lowest)
    row = next_row(lowest)
    # A pizza that is turned is worth the same, so the first of such rows begins with the smallest size.
    while len(row) > 0 and row[0] == lowest[0]:
        own = whole_worth(row)
        if own < least:
            least = own
            found = row
        row = next_row(row)
    return found


class Pizza:
    """The sizes of the pieces round a pizza, and which have been taken, in that order."""

    def __init__(self):
        self.sizes = [1]
        self.taken = []

    def renew(self, sizes):
        """Answer the call pizza."""
        if not can_be_pizza(sizes):
            return [DOES_NOT_FIT]
        self.sizes = list(sizes)
        self.taken = []
        return [sum(sizes)]

    def at_turn(self):
        """Give the eater who is at turn: 0 began, so it follows from how many pieces have been taken."""
        return len(self.taken) % 2

    def got(self, eater):
        """Give how much this eater has got so far."""
        return sum([self.sizes[piece] for piece in self.taken[eater::2]])

    def count_left(self):
        """Give how many pieces are left."""
        return len(self.sizes) - len(self.taken)

    def beside_gap(self, piece):
        """Tell whether a neighbour of this piece has been taken."""
        many = len(self.sizes)
        return (piece - 1) % many in self.taken or (piece + 1) % many in self.taken

    def refusal(self, piece):
        """Give why this piece may not be taken now, or NOT_REFUSED."""
        if piece >= len(self.sizes):
            return DOES_NOT_FIT
        if piece in self.taken:
            return ALREADY_TAKEN
        if len(self.taken) > 0 and not self.beside_gap(piece):
            return NOT_BESIDE_GAP
        return NOT_REFUSED

    def take(self, piece):
        """Answer the call take."""
        refused = self.refusal(piece)
        if refused != NOT_REFUSED:
            return [refused]
        eater = self.at_turn()
        self.taken.append(piece)
        return [eater, self.got(eater)]

    def back(self):
        """Answer the call back."""
        if len(self.taken) == 0:
            return [NONE_TAKEN]
        return [self.taken.pop()]

    def gains(self):
        """Answer the call gains."""
        return [self.got(0), self.got(1), self.at_turn(), self.count_left()]

    def free_pieces(self):
        """Give the pieces that may be taken, rising."""
        return [piece for piece in range(len(self.sizes)) if self.refusal(piece) == NOT_REFUSED]

    def may(self):
        """Answer the call may."""
        pieces = self.free_pieces()
        return [len(pieces)] + pieces

    def first_left(self):
        """Give the piece with which the row of those left begins, behind the gap; 0 if there is no such row."""
        many = len(self.sizes)
        for piece in range(many):
            if piece not in self.taken and (piece - 1) % many in self.taken:
                return piece
        return 0

    def left(self):
        """Give how much is left, all together."""
        return sum(self.sizes) - self.got(0) - self.got(1)

    def worth_to_one_at_turn(self):
        """Give what the one at turn gets of all that is left, if both do well."""
        if len(self.taken) == 0:
            return whole_worth(self.sizes)
        return row_worths(self.sizes, self.count_left())[self.first_left()]

    def worth(self):
        """Answer the call worth."""
        own = self.worth_to_one_at_turn()
        return [own, self.left() - own]

    def without(self, piece):
        """Give this pizza as another one, from which this piece has been taken too."""
        other = Pizza()
        other.sizes = list(self.sizes)
        other.taken = self.taken + [piece]
        return other

    def gain_by(self, piece):
        """Give what the one at turn gets of what is left by taking this piece, which may be taken."""
        return self.left() - self.without(piece).worth_to_one_at_turn()

    def gain(self, piece):
        """Answer the call gain."""
        refused = self.refusal(piece)
        if refused != NOT_REFUSED:
            return [refused]
        return [self.gain_by(piece)]

    def good_pieces(self):
        """Give the good pieces, rising."""
        most = self.worth_to_one_at_turn()
        return [piece for piece in self.free_pieces() if self.gain_by(piece) == most]

    def good(self):
        """Answer the call good."""
        pieces = self.good_pieces()
        return [len(pieces)] + pieces

    def count_plays(self):
        """Give how many good plays there are; one, without a piece, if nothing is left."""
        if len(self.taken) == 0:
            return sum([self.without(piece).count_plays() for piece in self.good_pieces()])
        return row_plays(self.sizes, self.count_left())[self.first_left()]

    def play_at(self, place):
        """Give the good play at this place, from 0, in order; there must be one."""
        pieces = []
        rest = self
        while rest.count_left() > 0:
            for piece in rest.good_pieces():
                behind = rest.without(piece)
                plays = behind.count_plays()
                if place < plays:
                    break
                # All plays that go on with this piece come before the one that is looked for.
                place = place - plays
            pieces.append(piece)
            rest = behind
        return pieces

    def play(self):
        """Answer the call play."""
        return [self.count_plays()] + self.play_at(0)

    def which(self, place):
        """Answer the call which."""
        if place >= self.count_plays():
            return [NO_SUCH_PLAY]
        return [0] + self.play_at(place)

    def cut(self):
        """Answer the call cut."""
        if len(self.sizes) > MOST_PIECES_TO_CUT:
            return [TOO_MANY_TO_CUT]
        row = meanest_row(self.sizes)
        return [whole_worth(row)] + row


def call_length(calls, place):
    """Give how many numbers the call at this place has, its own number among them."""
    if calls[place] == CALL_PIZZA:
        return 2 + calls[place + 1]
    if calls[place] in (CALL_TAKE, CALL_WHICH, CALL_GAIN):
        return 2
    return 1


def answer_call(pizza, call):
    """Answer one call, given as the list of its numbers."""
    number = call[0]
    if number == CALL_PIZZA:
        return pizza.renew(call[2:])
    if number == CALL_TAKE:
        return pizza.take(call[1])
    if number == CALL_BACK:
        return pizza.back()
    if number == CALL_GAINS:
        return pizza.gains()
    if number == CALL_MAY:
        return pizza.may()
    if number == CALL_WORTH:
        return pizza.worth()
    if number == CALL_GOOD:
        return pizza.good()
    if number == CALL_PLAY:
        return pizza.play()
    if number == CALL_WHICH:
        return pizza.which(call[1])
    if number == CALL_GAIN:
        return pizza.gain(call[1])
    if number == CALL_CUT:
        return pizza.cut()
    raise KeyError(number)


def answers(calls):
    """Answer all calls on a new pizza: for each, how many numbers are answered, then these."""
    pizza = Pizza()
    answered = []
    place = 0
    while place < len(calls):
        length = call_length(calls, place)
        answer = answer_call(pizza, calls[place:place + length])
        answered.append(len(answer))
        answered.extend(answer)
        place = place + length
    return answered
