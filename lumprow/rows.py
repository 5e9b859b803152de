"""Rows of boxes, told by their stretches: pairs (begin, length) from left to right.

All that is told here is reckoned from the stretches, never box by box, so that
stretches may be of any length and lie anywhere.
"""

from lumprow.errors import BadRow, TooMany

MOST_STRETCHES = 30
MOST_PLACES = 400


class Row:
    def __init__(self, stretches):
        # The number of pairs is looked at first: a wrong one among too many is TooMany.
        if len(stretches) > MOST_STRETCHES:
            raise TooMany("a row has at most 30 stretches")
        check_stretches(stretches)
        self.stretches = tuple([(begin, length) for begin, length in stretches])


def check_stretches(stretches):
    behind = None
    for begin, length in stretches:
        if length < 1:
            raise BadRow("a stretch has at least one ball")
        # A begin right at `behind` would make one stretch of two.
        if behind is not None and begin <= behind:
            raise BadRow("a gap lies between two stretches, which stand from left to right")
        behind = begin + length


def row_of_balls(places):
    if len(places) > MOST_PLACES:
        raise TooMany("at most 400 places are told")
    return Row(gathered(sorted(set(places))))


# The places are ascending, each told once; how many stretches come is for Row to judge.
def gathered(places):
    stretches = []
    for place in places:
        begin = place
        # Begin and length together are the place right behind a stretch: there it goes on.
        if stretches and sum(stretches[-1]) == place:
            begin = stretches.pop()[0]
        stretches.append((begin, place + 1 - begin))
    return stretches


def ball_at(row, place):
    return any([begin <= place < begin + length for begin, length in row.stretches])


def balls_in(row, low, high):
    # Where a stretch lies outside, or high is no more than low, the difference is no more than 0.
    return sum([max(0, min(high, begin + length) - max(low, begin)) for begin, length in row.stretches])


def balls_below(row, place):
    return sum([max(0, min(length, place - begin)) for begin, length in row.stretches])


def ball_count(row):
    return sum([length for begin, length in row.stretches])


def gaps_of(row):
    return [right[0] - sum(left) for left, right in zip(row.stretches, row.stretches[1:])]


def moved(row, by):
    return Row([(begin + by, length) for begin, length in row.stretches])


def mirrored(row):
    # The last ball of a stretch, at begin + length - 1, is the first one of its mirror.
    return Row([(1 - begin - length, length) for begin, length in reversed(row.stretches)])


def alike(one, two):
    return one.stretches == two.stretches
