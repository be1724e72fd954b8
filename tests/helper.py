"""What the tests share: calls in their layout, and a plain search that knows nothing of the program."""

from pizzaturns.slices import answers

BACK = [2]
GAINS = [3]
MAY = [4]
WORTH = [5]


def pizza(*sizes):
    return [0, len(sizes), *sizes]


def take(piece):
    return [1, piece]


def parts(answered):
    """Take the list that answers gives back apart, a list for each call."""
    found = []
    place = 0
    while place < len(answered):
        end = place + 1 + answered[place]
        if end > len(answered):
            raise AssertionError("an answer is shorter than its count says")
        found.append(answered[place + 1:end])
        place = end
    return found


def ask(*calls):
    """Give the answers to these calls on a new pizza, a list for each."""
    return parts(answers([number for call in calls for number in call]))


def plain_may(many, taken):
    """Give the pieces that may be taken, by the document's words."""
    if not taken:
        return list(range(many))
    gap = set(taken)
    beside = {(piece + step) % many for piece in gap for step in (1, many - 1)}
    return sorted(beside - gap)


def plain_worth(sizes, taken):
    """Give what the one at turn and the other one get of what's left, through all ways of taking."""
    pieces = plain_may(len(sizes), taken)
    if not pieces:
        return 0, 0
    found = []
    for piece in pieces:
        other, own = plain_worth(sizes, taken + [piece])
        found.append((own + sizes[piece], other))
    return max(found)


def numbers(start, count, below):
    """Give a fixed row of mixed numbers from 0 up to below."""
    row = []
    value = start
    for turn in range(count):
        value = (value * 1103515245 + 12345) % 2147483648
        row.append((value >> 8) % below)
    return row


def ways_to_all_rests(many):
    """Give, for each rest a pizza of so many pieces can come to, one order of taking that leads there."""
    ways = [[]]
    for first in range(many):
        for length in range(1, many + 1):
            rising = [(first + step) % many for step in range(length)]
            ways.append(rising)
            ways.append(rising[::-1])
    return ways
