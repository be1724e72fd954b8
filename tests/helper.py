"""What the tests share: calls in their layout, and a plain search that knows nothing of the program."""

import functools
import itertools

from pizzaturns.slices import answers

TOP = 4294967295
BACK = [2]
GAINS = [3]
MAY = [4]
WORTH = [5]
GOOD = [6]
PLAY = [7]
CUT = [10]


def pizza(*sizes):
    return [0, len(sizes), *sizes]


def take(piece):
    return [1, piece]


def which(place):
    return [8, place]


def gain(piece):
    return [9, piece]


def parts(answered):
    """Take the list that answers gives back apart, a list for each call."""
    found = []
    place = 0
    while place < len(answered):
        end = place + 1 + answered[place]
        if end > len(answered):
            raise AssertionError("an answer is shorter than its count says")
        found.append(answered[place + 1:end])
        place = end
    return found


def ask(*calls):
    """Give the answers to these calls on a new pizza, a list for each."""
    return parts(answers([number for call in calls for number in call]))


def ask_at(sizes, way, *calls):
    """Give the answers to these calls on a pizza of these sizes, from which the pieces of the way have been taken."""
    return ask(pizza(*sizes), *[take(piece) for piece in way], *calls)[1 + len(way):]


def plain_may(many, taken):
    """Give the pieces that may be taken, by the document's words."""
    if not taken:
        return list(range(many))
    gap = set(taken)
    beside = {(piece + step) % many for piece in gap for step in (1, many - 1)}
    return sorted(beside - gap)


def plain_worth(sizes, taken):
    """Give what the one at turn and the other one get of what's left, through all ways of taking."""
    return rest_worth(tuple(sizes), frozenset(taken))


@functools.lru_cache(maxsize=100000)
def rest_worth(sizes, taken):
    found = []
    for piece in plain_may(len(sizes), taken):
        other, own = rest_worth(sizes, taken | {piece})
        found.append((own + sizes[piece], other))
    return max(found, default=(0, 0))


def plain_gain(sizes, taken, piece):
    """Give what the one at turn gets of what's left by taking this piece, through all ways of taking."""
    return sizes[piece] + plain_worth(sizes, [*taken, piece])[1]


def plain_good(sizes, taken):
    """Give the good pieces, rising."""
    most = plain_worth(sizes, taken)[0]
    return [piece for piece in plain_may(len(sizes), taken) if plain_gain(sizes, taken, piece) == most]


def plain_plays(sizes, taken):
    """Give all good plays, in order."""
    if len(taken) == len(sizes):
        return [[]]
    plays = []
    for piece in plain_good(sizes, taken):
        plays.extend([piece, *play] for play in plain_plays(sizes, [*taken, piece]))
    return sorted(plays)


@functools.lru_cache(maxsize=1000)
def plain_cut(sizes):
    """Give the least that the first one gets of a whole pizza, and the first row with which that's so."""
    least, row = min((plain_worth(row, [])[0], row) for row in set(itertools.permutations(sizes)))
    return [least, *row]


def numbers(start, count, below):
    """Give a fixed row of mixed numbers from 0 up to below."""
    row = []
    value = start
    for turn in range(count):
        value = (value * 1103515245 + 12345) % 2147483648
        row.append((value >> 8) % below)
    return row


def ways_to_all_rests(many):
    """Give, for each rest a pizza of so many pieces can come to, one order of taking that leads there."""
    ways = [[]]
    for first in range(many):
        for length in range(1, many + 1):
            rising = [(first + step) % many for step in range(length)]
            ways.append(rising)
            ways.append(rising[::-1])
    return ways


def mixed_sizes(many):
    """Give some pizzas of so many pieces: equal ones, few different sizes, many different ones."""
    return [[0] * many, [1000] * many, numbers(many, many, 2), numbers(many + 20, many, 4), numbers(many, many, 1001)]


def small_pizzas(most):
    """Give all whole pizzas of up to so many pieces with sizes of 0 to 2, as sizes and a way with no piece in it."""
    return [
        (list(sizes), []) for many in range(1, most + 1) for sizes in itertools.product(range(3), repeat=many)]


def small_rests(most):
    """Give some pizzas of up to so many pieces, each with a way to each of its rests."""
    return [
        (sizes, way)
        for many in range(1, most + 1) for sizes in mixed_sizes(many) for way in ways_to_all_rests(many)]


def large_rests():
    """Give some pizzas of 8 to 12 pieces, whole and in the midst."""
    return [
        (sizes, way)
        for many in range(8, 13) for sizes in mixed_sizes(many)
        for way in ([], [many - 1], [0, many - 1, 1, 2], [5, 6, 4, 3, 7, 2])]
