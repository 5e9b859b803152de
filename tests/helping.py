"""What several tests need: asking for a refusal, and rows, ferries and thinnings told box by box."""

import random
import unittest

from lumprow import errors
from lumprow.rows import Row, moved

GREATEST = 10 ** 60 - 1
FORTY = 10 ** 40
# None of these is a list of lumps, each for another reason.
NO_LUMPS = (
    [(2, 1), (1, 1)], [(1, 1), (3, 1), (2, 1)], [(1, 2), (5, 1), (4, 1), (6, 1)], [(1, 1), (1, 1)], [(1, 1), (1, 2)],
    [(1, 2), (1, 1)], [(1, 1), (4, 1), (4, 3), (5, 1)], [(0, 1)], [(-1, 1)], [(-GREATEST, 1)], [(0, 1), (1, 1)],
    [(-2, 1), (-1, 1), (3, 1)], [(1, 0)], [(1, -1)], [(1, -GREATEST)], [(1, 1), (2, 0)], [(1, 0), (2, 1)],
    [(1, 3), (2, -2), (3, 3)], [(0, 0)])
# Of these there would be more than 30 in all, too.
NO_LUMPS_OF_MANY = (
    [(2, 31), (1, 1)], [(2, 1), (1, 31)], [(1, 31), (1, 31)], [(1, 16), (1, 15)], [(0, 31)], [(1, 31), (2, 0)],
    [(1, 0), (2, 31)], [(1, 31), (2, -1)], [(1, 40), (2, -20)], [(-GREATEST, GREATEST)],
    [(size, 1) for size in range(1, 40)] + [(39, 1)], [(size, 1) for size in range(40, 0, -1)])


class RefusalCase(unittest.TestCase):
    def refused(self, kind, call, *told):
        """Asserts that the call is refused by this very class, and gives the refusal back."""
        with self.assertRaises(errors.LumpError) as caught:
            call(*told)
        self.assertIs(type(caught.exception), kind)
        self.assertIsInstance(caught.exception, ValueError)
        return caught.exception

    def refused_at(self, kind, at, call, *told):
        self.assertEqual(self.refused(kind, call, *told).at, at)

    def told_alike_again(self, call, *told):
        """Asserts that a told list is the asker's own: spoiled, it is told as before."""
        first = call(*told)
        self.assertIs(type(first), list)
        kept = list(first)
        first.append("spoiled")
        first.reverse()
        self.assertEqual(call(*told), kept)


def spaced(count, begin=0, step=2):
    """So many pairs of length 1, with gaps of step - 1."""
    return [(begin + step * k, 1) for k in range(count)]


def small_rows(boxes):
    """Each set of places from 0 to boxes - 1, beside its row, made without row_of_balls."""
    for bits in range(1 << boxes):
        places = {k for k in range(boxes) if bits >> k & 1}
        yield places, Row(pairs_of(places))


def places_of(row):
    return {place for begin, length in row.stretches for place in range(begin, begin + length)}


def pairs_of(places):
    """The stretches of a set of places, as a tuple of pairs."""
    begins = sorted(p for p in places if p - 1 not in places)
    ends = sorted(p + 1 for p in places if p + 1 not in places)
    return tuple((begin, end - begin) for begin, end in zip(begins, ends))


def scattered(seed, stretches, longest, widest):
    """A row of so many stretches, of lengths up to longest and gaps up to widest: the same one each time."""
    chance = random.Random(seed)
    place = chance.randint(-50, 50)
    pairs = []
    for k in range(stretches):
        length = chance.randint(1, longest)
        pairs.append((place, length))
        place += length + chance.randint(1, widest)
    return Row(pairs)


def tables(most_size, widest, count):
    """So many tables of 1 to 30 lumps, the same ones each time."""
    chance = random.Random(count)
    for k in range(count):
        lumps = {}
        for lump in range(chance.randint(1, 30)):
            key = (chance.randint(1, most_size), chance.randint(-widest, widest))
            lumps[key] = lumps.get(key, 0) + 1
        yield [key + (lumps[key],) for key in sorted(lumps)]


def scaled(row, by):
    return Row([(begin * by, length * by) for begin, length in row.stretches])


def great_rows():
    """Rows of 1 to 30 stretches, of 40 and of 60 figures, begins of either sign."""
    for seed, count in enumerate((1, 2, 3, 8, 30, 30)):
        small = scattered(seed, count, 9, 9)
        for by in (FORTY, 10 ** 58 + 7):
            for move in (0, GREATEST, -GREATEST):
                yield small, by, move, moved(scaled(small, by), move)


def ferried(places, seats):
    """A going on from box to box: the places of balls left, how many were taken, and the balls aboard by place."""
    left = set(places)
    load = 0
    count = 0
    loads = {}
    place = min(places, default=0) - 3
    last = max(places, default=0)
    while place <= last or load:
        loads[place] = load
        if place in left:
            if seats is None or load < seats:
                left.remove(place)
                load += 1
                count += 1
        elif load:
            left.add(place)
            load -= 1
        place += 1
    for beyond in range(3):
        loads[place + beyond] = 0
    return left, count, loads


def ferried_back(places, seats):
    """A going back from box to box, from the right: the places of balls left."""
    left = set(places)
    load = 0
    place = max(places, default=0) + 3
    first = min(places, default=0)
    while place >= first or load:
        if place in left:
            if seats is None or load < seats:
                left.remove(place)
                load += 1
        elif load:
            left.add(place)
            load -= 1
        place -= 1
    return left


def ferried_so_often(places, seats, times):
    """The places of balls behind so many goings, below nought back, one by one and from box to box."""
    left = places
    for going in range(abs(times)):
        left = ferried(left, seats)[0] if times > 0 else ferried_back(left, seats)
    return left


def seats_to_try(row):
    balls = sum(length for begin, length in row.stretches)
    few = {1, 2, 3, 4, 7, balls - 1, balls, balls + 1}
    return sorted(seats for seats in few if seats >= 1) + [None]


def line_of(row, low, high):
    """The letters from low on that are below high; the balls of the row are all among them."""
    places = places_of(row)
    assert all(low <= place < high for place in places)
    return "".join("*" if place in places else "." for place in range(low, high))


def row_of_line(line, low):
    return Row(pairs_of({low + k for k, letter in enumerate(line) if letter == "*"}))


def strike(line):
    """One thinning, letter by letter: the line left, and the pairs struck at each spot, counted from its begin."""
    left = ""
    spots = {}
    k = 0
    while k < len(line):
        if line[k:k + 2] == "*.":
            spots[len(left)] = spots.get(len(left), 0) + 1
            k += 2
        else:
            left += line[k]
            k += 1
    return left, spots


def owes(line, spot):
    return 1 if line[spot - 1:spot + 1] == "*." else 0


def triples_of_line(line, low):
    """The table of a line, thinned letter by letter until no ball is left."""
    table = []
    size = 0
    while "*" in line:
        size += 1
        line, spots = strike(line)
        line += ".."
        for spot in sorted(spots):
            if spots[spot] > owes(line, spot):
                table.append((size, low + spot, spots[spot] - owes(line, spot)))
    return table
