"""One ferry's going along a row, on and back.

A going is reckoned from stretch to stretch, never from box to box, so that
stretches, gaps and seats may be of any greatness.
"""

from lumprow.errors import BadSeats
from lumprow.rows import Row, ball_count, gaps_of, mirrored


def check_seats(seats):
    if seats is not None and seats < 1:
        raise BadSeats("a ferry has at least one seat")


# How much of a lump of some size is a ferry's: so many of its balls it takes, and so far it moves the lump's spot.
def share_of(size, seats):
    return size if seats is None else min(size, seats)


# For each stretch (begin, length, takes, sets): how many of its balls the ferry takes, and how many
# it sets down in the gap behind.
def stops(row, seats):
    check_seats(seats)
    # A ferry never has more aboard than the row has balls, so None needs no rule of its own.
    most = ball_count(row) if seats is None else seats
    told = []
    load = 0
    # Behind the last stretch the free boxes have no end: as many as seats are enough.
    for stretch, gap in zip(row.stretches, gaps_of(row) + [most]):
        takes = min(stretch[1], most - load)
        sets = min(load + takes, gap)
        load = load + takes - sets
        told.append(stretch + (takes, sets))
    return told


def gone(row, seats):
    # No two of these touch: where a gap is filled up, a seat is free for the first ball behind it.
    return Row([(begin + takes, length - takes + sets) for begin, length, takes, sets in stops(row, seats)])


def back(row, seats):
    return mirrored(gone(mirrored(row), seats))


def taken(row, seats):
    return sum([takes for begin, length, takes, sets in stops(row, seats)])


def aboard(row, seats, place):
    load = 0
    for begin, length, takes, sets in stops(row, seats):
        load += min(takes, max(0, place - begin))
        load -= min(sets, max(0, place - begin - length))
    return load
