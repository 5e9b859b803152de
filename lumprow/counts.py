"""Rows counted and numbered: those with the same lumps that the boxes 0 to n - 1 hold.

A row is held just where each of its spots is from 0 to the room of the spot's size. So rows are counted
and numbered as lists of spots, never falling within a size, and none of them is looked for.
"""

from lumprow.errors import NoRow
from lumprow.kept import check_few, check_lumps, told_taking
from lumprow.tables import lumps_apart, lumps_of, row_of

MOST_COUNTED = 12


def rooms(boxes, lumps):
    check_lumps(lumps)
    check_few(lumps, MOST_COUNTED)
    # What a ferry of as many seats as the size takes is the sum of the lesser ones.
    return [(size, boxes - 2 * told_taking(lumps, size)) for size, number in lumps]


# How many ways there are to choose so few of so many.
def choices(many, few):
    if few < 0:
        return 0
    told = 1
    for chosen in range(few):
        told = told * (many - chosen) // (chosen + 1)
    return told


# How many lists of so many spots there are, never falling, each spot from 0 to the room.
def spot_lists(room, count):
    return 0 if room < 0 else choices(room + count, count)


def how_many(boxes, lumps):
    told = 1
    for room, lump in zip(rooms(boxes, lumps), lumps):
        told *= spot_lists(room[1], lump[1])
    return told


def numbered(boxes, lumps, number):
    # So many rows have the same spots of all sizes so far: the list has those of the least size first.
    same = how_many(boxes, lumps)
    if not 0 <= number < same:
        raise NoRow("the boxes hold no row of this number")
    table = []
    left = number
    for room, lump in zip(rooms(boxes, lumps), lumps):
        same //= spot_lists(room[1], lump[1])
        spots = spots_numbered(room[1], lump[1], left // same)
        left = left % same
        table.extend([(lump[0], spot, spots.count(spot)) for spot in sorted(set(spots))])
    return row_of(table)


# Lists are counted from the last one: those whose spots are all at some spot or farther right are the last ones.
def spots_numbered(room, count, number):
    spots = []
    still = spot_lists(room, count) - number
    for spots_left in range(count, 0, -1):
        rest = least_room(room, spots_left, still)
        still -= spot_lists(rest - 1, spots_left)
        spots.append(room - rest)
    return spots


# The least room with so many lists of so many spots, which the greatest one has. Rooms may be too many to try each.
def least_room(greatest, count, lists):
    low = 0
    high = greatest
    while low < high:
        middle = (low + high) // 2
        if spot_lists(middle, count) < lists:
            low = middle + 1
        else:
            high = middle
    return low


# A list comes behind another one where, at the first place at which they differ, its spot is farther right.
def number_of_spots(room, spots):
    behind = sum([spot_lists(room - spot - 1, len(spots) - ahead) for ahead, spot in enumerate(spots)])
    return spot_lists(room, len(spots)) - 1 - behind


def in_all(boxes, balls):
    if 2 * balls > boxes:
        return 0
    return choices(boxes, balls) - choices(boxes, balls - 1)


def number_of(boxes, row):
    lumps = lumps_of(row)
    apart = lumps_apart(row)
    told = 0
    for size, room in rooms(boxes, lumps):
        spots = [spot for other, spot in apart if other == size]
        if spots[0] < 0 or spots[-1] > room:
            raise NoRow("the boxes don't hold this row")
        told = told * spot_lists(room, len(spots)) + number_of_spots(room, spots)
    return (lumps, told)
