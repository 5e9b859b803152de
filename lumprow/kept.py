"""What all ferries keep: the lumps of a row, told as pairs (size, number), and what ferries take."""

from lumprow.errors import BadSeats, BadTable, NoRow, TooMany
from lumprow.ferries import check_seats, share_of, taken
from lumprow.tables import MOST_LUMPS, lumps_of

MOST_TAKINGS = 100


def check_lumps(lumps):
    # The least size must be above nought, as each other one above the size ahead of it.
    ahead = 0
    for size, number in lumps:
        if size <= ahead:
            raise BadTable("sizes of lumps are from 1 on, ascending, each of them once")
        if number < 1:
            raise BadTable("numbers of lumps are from 1 on")
        ahead = size


# How many lumps are too many is not the same everywhere, and is asked of right lumps alone.
def check_few(lumps, most):
    if sum([number for size, number in lumps]) > most:
        raise TooMany("so many lumps are too many in all")


def takings(row, most):
    if most < 1:
        raise BadSeats("a ferry has at least one seat")
    if most > MOST_TAKINGS:
        raise TooMany("takings are told up to 100 seats")
    return [taken(row, seats) for seats in range(1, most + 1)]


def told_taking(lumps, seats):
    check_seats(seats)
    check_lumps(lumps)
    check_few(lumps, MOST_LUMPS)
    return sum([number * share_of(size, seats) for size, number in lumps])


def lumps_by(told):
    takes = [0] + told
    last = takes[-2:]
    # A list that still grows at its end, or falls there, doesn't tell what greater ferries take.
    if last[0] != last[-1]:
        raise NoRow("the last two takings are not alike")
    numbers = [2 * here - ahead - behind for ahead, here, behind in zip(takes, takes[1:], takes[2:])]
    if any([number < 0 for number in numbers]):
        raise NoRow("a number of lumps would be below nought")
    return [(size, number) for size, number in enumerate(numbers, start=1) if number > 0]


def columns(lumps):
    check_lumps(lumps)
    told = []
    height = 0
    lesser_sizes = [0] + [size for size, number in lumps]
    # From the greatest size on: there the columns are the lowest ones.
    for lesser, lump in reversed(list(zip(lesser_sizes, lumps))):
        height += lump[1]
        told.append((height, lump[0] - lesser))
    return told


def same_lumps(one, two):
    return lumps_of(one) == lumps_of(two)
