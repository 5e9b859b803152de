"""What goings of the greatest ferry make of a row, far ahead and far behind.

There each lump is a stretch of its own: its line is a pair (size, begin), and behind t goings
the stretch begins at begin + size * t.
"""

from lumprow.rows import gaps_of, mirrored
from lumprow.tables import lumps_apart, lumps_of


def settled(row):
    lengths = [length for begin, length in row.stretches]
    return all([left <= right and left <= gap for left, right, gap in zip(lengths, lengths[1:], gaps_of(row))])


def early(row):
    return settled(mirrored(row))


def far_lines(row):
    lines = []
    left = 0
    for size, spot in lumps_apart(row):
        lines.append((size, spot + 2 * left))
        left += size
    return lines


def early_lines(row):
    # Where the sizes fall the spots of one size must still rise: sorted leaves those of one size as they stood.
    lumps = sorted(lumps_apart(row), key=lambda lump: -lump[0])
    return [(lump[0], lump[1] + 2 * lump[0] * left) for left, lump in enumerate(lumps)]


# Lines of one size keep their distance, which is always enough: they bound no number of goings.
def neighbours(lines):
    return [(left, right) for left, right in zip(lines, lines[1:]) if left[0] != right[0]]


# A row is settled behind t goings just where its far lines lie so at t: each gap, which grows by the
# difference of the sizes, is no less than the size on its left. The least such t is rounded up.
def settles(row):
    pairs = neighbours(far_lines(row))
    return max([-((right[1] - left[1] - 2 * left[0]) // (right[0] - left[0])) for left, right in pairs], default=None)


# Likewise for early lines, where each gap shrinks and is no less than the size on its right.
def earlies(row):
    pairs = neighbours(early_lines(row))
    return min([(right[1] - left[1] - left[0] - right[0]) // (left[0] - right[0]) for left, right in pairs],
               default=None)


def delays(row):
    told = []
    greater = len(row.stretches)
    lesser_sizes = 0
    for size, number in lumps_of(row):
        greater -= number
        told.extend([(size, 2 * lesser_sizes - 2 * size * greater)] * number)
        lesser_sizes += size * number
    return told
