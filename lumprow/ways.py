"""Which goings of ferries lead from one row to another."""

from lumprow.ferries import check_seats, share_of
from lumprow.tables import lumps_apart


# The pairs (size, by), sizes ascending: by how many places all lumps of a size are moved from the one row to
# the other. None where the lumps are not the same, or not all of one size are moved alike.
def moves(one, two):
    here = lumps_apart(one)
    there = lumps_apart(two)
    if [size for size, spot in here] != [size for size, spot in there]:
        return None
    told = {}
    for begun, led in zip(here, there):
        by = led[1] - begun[1]
        if told.setdefault(begun[0], by) != by:
            return None
    return list(told.items())


# From one size to the next greater one, what all goings together move grows by the goings of all ferries with
# more seats than the first one. So at each size the growth falls by the goings of the ferry with as many seats.
# Told are pairs (size, growth): so much it grows at each step up to this size, behind the pair ahead.
def growths(told):
    pairs = []
    ahead = (0, 0)
    for size, by in told:
        steps = size - ahead[0]
        growth = (by - ahead[1]) // steps
        # What whole numbers leave over, the first steps have as one more each.
        over = (by - ahead[1]) - growth * steps
        if over > 0:
            pairs.append((ahead[0] + over, growth + 1))
        pairs.append((size, growth))
        ahead = (size, by)
    return pairs


def ways(one, two):
    told = moves(one, two)
    if told is None:
        return None
    pairs = growths(told)
    goings = [(here[0], here[1] - behind[1]) for here, behind in zip(pairs, pairs[1:])]
    # No lump is greater than the last size: what grows up to there the greatest ferry does.
    goings.extend([(None, growth) for size, growth in pairs[-1:]])
    return [pair for pair in goings if pair[1] != 0]


def led_by(one, two, seats):
    check_seats(seats)
    told = moves(one, two)
    if told is None:
        return None
    times = 0
    # One size tells what the number of goings must be, if there is any; then all sizes must be moved by it.
    for size, by in told[:1]:
        times = by // share_of(size, seats)
    return times if all([by == times * share_of(size, seats) for size, by in told]) else None
