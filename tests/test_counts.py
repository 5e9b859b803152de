"""Points 10.1 to 10.4: rows counted and numbered."""

import functools
import math
import random
import unittest

from lumprow.counts import how_many, in_all, number_of, numbered, rooms
from lumprow.errors import BadTable, NoRow, TooMany
from lumprow.ferries import gone
from lumprow.rows import Row, moved
from lumprow.tables import lumps_of, row_of, table_of

from helping import (
    FORTY, GREATEST, NO_LUMPS, NO_LUMPS_OF_MANY, RefusalCase, ferried, line_of, pairs_of, scattered, small_rows,
    spaced, triples_of_line)

MOST_BOXES = 10 ** 9
TWELVE = ([(1, 12)], [(1, 6), (2, 6)], [(size, 1) for size in range(1, 13)], [(3, 1), (7, 11)], [(5, 11), (9, 1)])
THIRTEEN = ([(1, 13)], [(1, 6), (2, 7)], [(size, 1) for size in range(1, 14)], [(3, 1), (7, 12)], [(5, 12), (9, 1)],
            [(GREATEST, 13)], [(1, GREATEST)], [(1, 30)], [(1, 31)])


@functools.lru_cache(maxsize=None)
def held(boxes):
    """By lumps: all rows that so many boxes hold, tried one by one, as pairs of their list of spots and stretches.

    Each row goes from box to box, and is thinned letter by letter. They stand in the order of 10.4.
    """
    told = {}
    for places, row in small_rows(boxes):
        if all(0 <= place < boxes for place in ferried(places, None)[0]):
            table = triples_of_line(line_of(row, -2, boxes + 2), -2)
            sizes = [size for size, spot, number in table for lump in range(number)]
            spots = [spot for size, spot, number in table for lump in range(number)]
            lumps = tuple((size, sizes.count(size)) for size in sorted(set(sizes)))
            told.setdefault(lumps, []).append((spots, row.stretches))
    return {lumps: sorted(rows) for lumps, rows in told.items()}


def lumps_with(balls, least=1):
    """All lists of lumps of so many balls, of no lesser size than told."""
    if balls == 0:
        yield []
    for size in range(least, balls + 1):
        for number in range(1, balls // size + 1):
            for rest in lumps_with(balls - size * number, size + 1):
                yield [(size, number)] + rest


def some_lumps(count, most_size):
    """So many lists of 1 to 12 lumps, the same ones each time."""
    chance = random.Random(count)
    for k in range(count):
        sizes = [chance.randint(1, most_size) for lump in range(chance.randint(1, 12))]
        yield [(size, sizes.count(size)) for size in sorted(set(sizes))]


def room_by_hand(boxes, lumps, size):
    return boxes - 2 * sum(number * min(other, size) for other, number in lumps)


def spots_of(row):
    return [spot for size, spot, number in table_of(row) for lump in range(number)]


def next_spots(boxes, lumps, spots):
    """The list of spots right behind this one."""
    sizes = [size for size, number in lumps for lump in range(number)]
    places = [room_by_hand(boxes, lumps, size) for size in sizes]
    last = max(k for k, spot in enumerate(spots) if spot < places[k])
    step = spots[last] + 1
    return spots[:last] + [step if size == sizes[last] else 0 for size in sizes[last:]]


class Rooms(RefusalCase):
    def test_by_hand(self):
        self.assertEqual(rooms(10, [(1, 2), (3, 1)]), [(1, 4), (3, 0)])
        self.assertEqual(rooms(20, [(2, 3), (5, 1), (6, 2)]), [(2, -4), (5, -22), (6, -26)])
        self.assertEqual(rooms(7, [(4, 1)]), [(4, -1)])
        self.assertEqual(rooms(8, [(4, 1)]), [(4, 0)])
        self.assertEqual(rooms(9, [(4, 1)]), [(4, 1)])
        self.assertEqual(rooms(100, [(1, 12)]), [(1, 76)])

    def test_without_lumps(self):
        for boxes in (0, 1, MOST_BOXES):
            self.assertEqual(rooms(boxes, []), [])

    def test_no_boxes_and_the_most(self):
        self.assertEqual(rooms(0, [(1, 1)]), [(1, -2)])
        self.assertEqual(rooms(0, [(1, 3), (4, 2)]), [(1, -10), (4, -22)])
        self.assertEqual(rooms(MOST_BOXES, [(1, 3), (4, 2)]), [(1, MOST_BOXES - 10), (4, MOST_BOXES - 22)])

    def test_great_sizes(self):
        self.assertEqual(rooms(MOST_BOXES, [(1, 1), (GREATEST, 11)]),
                         [(1, MOST_BOXES - 24), (GREATEST, MOST_BOXES - 2 - 22 * GREATEST)])
        self.assertEqual(rooms(5, [(FORTY, 5), (GREATEST, 7)]),
                         [(FORTY, 5 - 24 * FORTY), (GREATEST, 5 - 10 * FORTY - 14 * GREATEST)])

    def test_by_the_rule(self):
        for most_size in (1, 2, 5, 30, GREATEST):
            for lumps in some_lumps(40, most_size):
                for boxes in (0, 1, 17, 100, MOST_BOXES):
                    self.assertEqual(rooms(boxes, lumps), [
                        (size, room_by_hand(boxes, lumps, size)) for size, number in lumps])

    def test_the_greatest_size_leaves_the_boxes_less_twice_the_balls(self):
        for lumps in some_lumps(40, 20):
            self.assertEqual(rooms(1000, lumps)[-1][1], 1000 - 2 * sum(size * number for size, number in lumps))


class HowMany(RefusalCase):
    def test_by_hand(self):
        self.assertEqual(how_many(2, [(1, 1)]), 1)
        self.assertEqual(how_many(5, [(1, 1)]), 4)
        self.assertEqual(how_many(5, [(1, 2)]), 3)
        self.assertEqual(how_many(10, [(1, 2), (3, 1)]), 15)
        self.assertEqual(how_many(10, [(2, 1), (3, 1)]), 3)
        self.assertEqual(how_many(9, [(2, 1), (3, 1)]), 0)

    def test_without_lumps(self):
        for boxes in (0, 1, 7, MOST_BOXES):
            self.assertEqual(how_many(boxes, []), 1)

    def test_all_rows_of_few_boxes(self):
        for boxes in range(14):
            told = held(boxes)
            for balls in range(boxes // 2 + 3):
                for lumps in lumps_with(balls):
                    self.assertEqual(how_many(boxes, lumps), len(told.get(tuple(lumps), [])), (boxes, lumps))

    def test_all_rows_of_few_boxes_are_of_lumps_that_were_asked(self):
        for boxes in range(14):
            asked = [tuple(lumps) for balls in range(boxes // 2 + 1) for lumps in lumps_with(balls)]
            self.assertLessEqual(set(held(boxes)), set(asked))

    def test_a_room_below_nought(self):
        self.assertEqual(how_many(0, [(1, 1)]), 0)
        self.assertEqual(how_many(1, [(1, 1)]), 0)
        self.assertEqual(how_many(23, [(1, 12)]), 0)
        self.assertEqual(how_many(24, [(1, 12)]), 1)
        # The lesser size has room enough.
        self.assertEqual(how_many(10, [(1, 1), (5, 1)]), 0)
        self.assertEqual(how_many(11, [(1, 1), (5, 1)]), 0)
        self.assertEqual(how_many(12, [(1, 1), (5, 1)]), 9)
        # Even so far below nought that a rule for choosing would tell more than nothing again.
        self.assertEqual(how_many(4, [(1, 2), (5, 2)]), 0)
        self.assertEqual(how_many(7, [(2, 4), (9, 4)]), 0)
        self.assertEqual(how_many(MOST_BOXES, [(GREATEST, 12)]), 0)
        self.assertEqual(how_many(MOST_BOXES, [(1, 1), (MOST_BOXES // 2, 1)]), 0)
        self.assertEqual(how_many(MOST_BOXES, [(1, 1), (MOST_BOXES // 2 - 1, 1)]), MOST_BOXES - 3)

    def test_great_numbers_of_boxes(self):
        n = MOST_BOXES
        self.assertEqual(how_many(n, [(1, 1)]), n - 1)
        self.assertEqual(how_many(n, [(7, 1)]), n - 13)
        self.assertEqual(how_many(n, [(1, 2)]), (n - 3) * (n - 2) // 2)
        self.assertEqual(how_many(n, [(1, 12)]), math.comb(n - 12, 12))
        self.assertEqual(how_many(n, [(size, 1) for size in (1, 2, 3)]), (n - 5) * (n - 9) * (n - 11))
        for lumps in TWELVE:
            product = math.prod(math.comb(room_by_hand(n, lumps, size) + number, number) for size, number in lumps)
            self.assertEqual(how_many(n, lumps), product)


class InAll(RefusalCase):
    def test_all_rows_of_few_boxes(self):
        for boxes in range(14):
            counted = {}
            for lumps, rows in held(boxes).items():
                balls = sum(size * number for size, number in lumps)
                counted[balls] = counted.get(balls, 0) + len(rows)
            for balls in range(16):
                self.assertEqual(in_all(boxes, balls), counted.get(balls, 0), (boxes, balls))

    def test_no_balls(self):
        for boxes in (0, 1, 2, 5, MOST_BOXES):
            self.assertEqual(in_all(boxes, 0), 1)

    def test_one_ball(self):
        for boxes in (2, 3, 50, MOST_BOXES):
            self.assertEqual(in_all(boxes, 1), boxes - 1)
        self.assertEqual(in_all(1, 1), 0)
        self.assertEqual(in_all(0, 1), 0)

    def test_half_of_the_boxes_and_one_more(self):
        for balls, told in ((1, 1), (2, 2), (3, 5), (4, 14), (5, 42), (200, math.comb(400, 200) // 201)):
            self.assertEqual(in_all(2 * balls, balls), told)
            self.assertEqual(in_all(2 * balls - 1, balls), 0)
            self.assertEqual(in_all(2 * balls - 2, balls), 0)
            self.assertEqual(in_all(2 * balls + 1, balls), math.comb(2 * balls + 1, balls) * 2 // (balls + 2))

    def test_no_rows_of_more_balls(self):
        for boxes in (0, 1, 10, 199, 398, 399):
            self.assertEqual(in_all(boxes, 200), 0)
        self.assertEqual(in_all(10, 10), 0)
        self.assertEqual(in_all(10, 11), 0)
        self.assertEqual(in_all(10, 12), 0)

    def test_by_choosing(self):
        for boxes in (400, 401, 777, 10 ** 5, MOST_BOXES):
            for balls in (1, 2, 13, 100, 199, 200):
                self.assertEqual(in_all(boxes, balls), math.comb(boxes, balls) - math.comb(boxes, balls - 1))

    def test_the_sum_over_all_lumps(self):
        for boxes in (0, 1, 2, 11, 12, 23, 24, 25, 40, 1000, MOST_BOXES):
            for balls in range(13):
                self.assertEqual(in_all(boxes, balls), sum(how_many(boxes, lumps) for lumps in lumps_with(balls)))


class Numbered(RefusalCase):
    def test_by_hand(self):
        told = [numbered(5, [(1, 2)], number).stretches for number in range(3)]
        self.assertEqual(told, [((0, 1), (2, 1)), ((0, 1), (3, 1)), ((1, 1), (3, 1))])
        self.assertEqual(numbered(0, [], 0).stretches, ())
        self.assertEqual(numbered(MOST_BOXES, [], 0).stretches, ())

    def test_all_numbers_of_few_boxes_in_order(self):
        for boxes in range(14):
            for lumps, rows in held(boxes).items():
                told = [numbered(boxes, list(lumps), number) for number in range(len(rows))]
                self.assertEqual([row.stretches for row in told], [stretches for spots, stretches in rows])
                self.assertTrue(all(isinstance(row, Row) for row in told))

    def test_each_row_just_once(self):
        for boxes, lumps in ((24, [(2, 3), (4, 1)]), (22, [(1, 1), (2, 2), (5, 1)]), (22, [(1, 4), (3, 2)])):
            count = how_many(boxes, lumps)
            told = [numbered(boxes, lumps, number) for number in range(count)]
            self.assertEqual(len({row.stretches for row in told}), count)
            spots = [spots_of(row) for row in told]
            self.assertEqual(spots, sorted(spots))
            for row in told:
                self.assertEqual(lumps_of(row), lumps)
                for left in (row, gone(row, None)):
                    self.assertTrue(left.stretches[0][0] >= 0 and sum(left.stretches[-1]) <= boxes)

    def test_the_first_and_the_last(self):
        for lumps in TWELVE:
            first = numbered(MOST_BOXES, lumps, 0)
            self.assertEqual(table_of(first), [(size, 0, number) for size, number in lumps])
            last = numbered(MOST_BOXES, lumps, how_many(MOST_BOXES, lumps) - 1)
            self.assertEqual(table_of(last), [
                (size, room_by_hand(MOST_BOXES, lumps, size), number) for size, number in lumps])

    def test_great_numbers_one_behind_the_other(self):
        chance = random.Random(10)
        for boxes in (500, 10 ** 6, MOST_BOXES):
            for lumps in TWELVE + ([(1, 1), (9, 2)], [(4, 3)], [(1, 5), (2, 1), (30, 2)]):
                most = how_many(boxes, lumps)
                middle = [chance.randrange(most - 1) for k in range(4)]
                for number in [0, 1, most // 2, most // 3, most - 3, most - 2] + middle:
                    spots = spots_of(numbered(boxes, lumps, number))
                    behind = spots_of(numbered(boxes, lumps, number + 1))
                    self.assertEqual(behind, next_spots(boxes, lumps, spots))

    def test_a_number_of_more_than_60_figures(self):
        lumps = [(1, 6), (2, 6)]
        most = how_many(MOST_BOXES, lumps)
        self.assertGreater(most, GREATEST)
        self.assertEqual(number_of(MOST_BOXES, numbered(MOST_BOXES, lumps, GREATEST + 7)), (lumps, GREATEST + 7))

    def test_great_numbers_by_hand(self):
        n = MOST_BOXES
        self.assertEqual(numbered(n, [(7, 1)], n - 20).stretches, ((n - 20, 7),))
        # Lists of two spots from 0 to n - 4: n - 3 of them begin with 0, and n - 4 with 1.
        self.assertEqual(spots_of(numbered(n, [(1, 2)], n - 4)), [0, n - 4])
        self.assertEqual(spots_of(numbered(n, [(1, 2)], n - 3)), [1, 1])
        self.assertEqual(spots_of(numbered(n, [(1, 2)], 2 * n - 8)), [1, n - 4])
        self.assertEqual(spots_of(numbered(n, [(1, 2)], 2 * n - 7)), [2, 2])
        # For each spot of size 1 there are n - 7 of size 3.
        self.assertEqual(spots_of(numbered(n, [(1, 1), (3, 1)], 12345 * (n - 7) + 678)), [12345, 678])
        self.assertEqual(spots_of(numbered(n, [(1, 1), (3, 1)], 12345 * (n - 7) - 1)), [12344, n - 8])

    def test_a_number_below_nought(self):
        for boxes, lumps in ((5, [(1, 2)]), (0, []), (MOST_BOXES, [(1, 12)]), (0, [(1, 1)])):
            for number in (-1, -2, -GREATEST):
                self.refused(NoRow, numbered, boxes, lumps, number)

    def test_how_many_itself_and_greater_numbers(self):
        for boxes, lumps in ((5, [(1, 2)]), (0, []), (9, []), (10, [(1, 2), (3, 1)]), (MOST_BOXES, TWELVE[2])):
            most = how_many(boxes, lumps)
            self.assertEqual(number_of(boxes, numbered(boxes, lumps, most - 1)), (lumps, most - 1))
            for number in (most, most + 1, 2 * most, most + GREATEST):
                self.refused(NoRow, numbered, boxes, lumps, number)

    def test_no_number_where_the_boxes_hold_none(self):
        for boxes, lumps in (
                (0, [(1, 1)]), (11, [(1, 1), (5, 1)]), (MOST_BOXES, [(GREATEST, 1)]), (4, [(1, 2), (5, 2)])):
            for number in (-1, 0, 1, GREATEST):
                self.refused(NoRow, numbered, boxes, lumps, number)


class NumberOf(RefusalCase):
    def test_by_hand(self):
        self.assertEqual(number_of(5, Row([(1, 1), (3, 1)])), ([(1, 2)], 2))
        self.assertEqual(number_of(10, Row([(0, 3)])), ([(3, 1)], 0))
        self.assertEqual(number_of(10, Row([(4, 3)])), ([(3, 1)], 4))
        self.assertEqual(number_of(0, Row([])), ([], 0))
        self.assertEqual(number_of(MOST_BOXES, Row([])), ([], 0))

    def test_all_rows_of_few_boxes(self):
        for boxes in range(14):
            for lumps, rows in held(boxes).items():
                for number, pair in enumerate(rows):
                    self.assertEqual(number_of(boxes, Row(pair[1])), (list(lumps), number))

    def test_every_row_that_few_boxes_don_t_hold(self):
        for boxes in range(9):
            right = {stretches for rows in held(boxes).values() for spots, stretches in rows}
            for places, row in small_rows(9):
                for begin in (0, -1, -3):
                    told = Row(pairs_of({place + begin for place in places}))
                    if told.stretches not in right:
                        self.refused(NoRow, number_of, boxes, told)

    def test_on_the_left_on_the_right_and_only_behind_a_going(self):
        self.refused(NoRow, number_of, 20, Row([(-1, 1)]))
        self.refused(NoRow, number_of, 20, Row([(-1, 2), (5, 1)]))
        self.refused(NoRow, number_of, 20, Row([(-GREATEST, 1)]))
        self.refused(NoRow, number_of, 20, Row([(20, 1)]))
        self.refused(NoRow, number_of, 20, Row([(0, 1), (19, 2)]))
        self.refused(NoRow, number_of, 20, Row([(GREATEST, 1)]))
        # All balls lie in the boxes, but a going sets one down behind them.
        self.refused(NoRow, number_of, 20, Row([(19, 1)]))
        self.refused(NoRow, number_of, 20, Row([(0, 1), (17, 2)]))
        self.refused(NoRow, number_of, 6, Row([(0, 3), (5, 1)]))
        self.assertEqual(number_of(20, Row([(18, 1)])), ([(1, 1)], 18))
        self.assertEqual(number_of(8, Row([(0, 3), (5, 1)])), ([(1, 1), (3, 1)], 3))
        self.refused(NoRow, number_of, 7, Row([(0, 3), (5, 1)]))
        self.refused(NoRow, number_of, 0, Row([(0, 1)]))
        self.refused(NoRow, number_of, MOST_BOXES, Row([(0, MOST_BOXES // 2 + 1)]))
        self.assertEqual(number_of(MOST_BOXES, Row([(0, MOST_BOXES // 2)])), ([(MOST_BOXES // 2, 1)], 0))
        self.refused(NoRow, number_of, MOST_BOXES, Row([(1, MOST_BOXES // 2)]))

    def test_the_number_of_the_numbered_row(self):
        chance = random.Random(11)
        for boxes in (300, 10 ** 6, MOST_BOXES):
            for lumps in list(some_lumps(30, 12)) + list(TWELVE):
                most = how_many(boxes, lumps)
                for number in (0, most - 1, chance.randrange(most), chance.randrange(most)):
                    self.assertEqual(number_of(boxes, numbered(boxes, lumps, number)), (lumps, number))

    def test_the_row_of_the_told_number(self):
        for seed in range(60):
            row = scattered(seed, seed % 13, 1 + seed % 9, 1 + seed % 7)
            placed = moved(row, 200 - (row.stretches[0][0] if row.stretches else 0))
            lumps, number = number_of(1000, placed)
            self.assertEqual(lumps, lumps_of(row))
            self.assertEqual(numbered(1000, lumps, number).stretches, placed.stretches)

    def test_in_many_more_boxes(self):
        # Somewhat more boxes than are told of are not refused.
        row = Row([(3, 5), (FORTY, 2)])
        lumps, number = number_of(GREATEST, row)
        self.assertEqual(numbered(GREATEST, lumps, number).stretches, row.stretches)


class Refused(RefusalCase):
    def test_wrong_lumps(self):
        for lumps in NO_LUMPS + NO_LUMPS_OF_MANY:
            for boxes in (0, 10, MOST_BOXES):
                self.refused(BadTable, rooms, boxes, lumps)
                self.refused(BadTable, how_many, boxes, lumps)
                self.refused(BadTable, numbered, boxes, lumps, 0)

    def test_wrong_lumps_go_ahead_of_too_many_and_of_no_row(self):
        for lumps in ([(2, 13), (1, 1)], [(1, 13), (1, 1)], [(0, 13)], [(1, 13), (2, 0)], [(1, 20), (2, -10)],
                      [(size, 1) for size in range(13, 0, -1)], [(-1, 12)], [(1, 12), (2, -1)]):
            self.refused(BadTable, rooms, 100, lumps)
            self.refused(BadTable, how_many, 100, lumps)
            for number in (0, -1, GREATEST):
                self.refused(BadTable, numbered, 100, lumps, number)

    def test_12_and_13_lumps(self):
        for lumps in TWELVE:
            self.assertEqual(len(rooms(100, lumps)), len(lumps))
            self.assertGreater(how_many(1000, lumps), 0)
            self.assertEqual(number_of(1000, numbered(1000, lumps, 5)), (lumps, 5))
        for lumps in THIRTEEN:
            for boxes in (0, 10, MOST_BOXES):
                self.refused(TooMany, rooms, boxes, lumps)
                self.refused(TooMany, how_many, boxes, lumps)
                # Ahead of NoRow.
                for number in (-1, 0, 5, 10 ** 200):
                    self.refused(TooMany, numbered, boxes, lumps, number)

    def test_a_row_of_12_and_of_13_lumps(self):
        self.assertEqual(number_of(24, Row(spaced(12))), ([(1, 12)], 0))
        self.refused(TooMany, number_of, 26, Row(spaced(13)))
        self.refused(TooMany, number_of, MOST_BOXES, Row(spaced(13)))
        self.refused(TooMany, number_of, MOST_BOXES, Row(spaced(30)))
        for lumps in TWELVE:
            row = row_of([(size, 0, number) for size, number in lumps])
            self.assertEqual(number_of(1000, row), (lumps, 0))
            self.refused(TooMany, number_of, 1000, row_of([(size, 0, number) for size, number in lumps] + [(13, 5, 1)]))

    def test_too_many_goes_ahead_of_no_row(self):
        for boxes in (0, 5, 25):
            self.refused(TooMany, number_of, boxes, Row(spaced(13)))
            self.refused(TooMany, number_of, boxes, Row(spaced(13, -7)))
            self.refused(NoRow, number_of, boxes, Row(spaced(12, -7)))


class HandedIn(RefusalCase):
    def test_rows_and_lumps_stay(self):
        lumps = [(1, 2), (3, 1)]
        row = Row([(0, 3), (5, 1)])
        rooms(20, lumps)
        how_many(20, lumps)
        numbered(20, lumps, 7)
        number_of(20, row)
        self.refused(NoRow, numbered, 20, lumps, -1)
        self.refused(NoRow, number_of, 2, row)
        self.assertEqual(lumps, [(1, 2), (3, 1)])
        self.assertEqual(row.stretches, ((0, 3), (5, 1)))
        for wrong in NO_LUMPS:
            kept = list(wrong)
            self.refused(BadTable, rooms, 20, wrong)
            self.assertEqual(wrong, kept)

    def test_told_alike_again(self):
        self.told_alike_again(rooms, 20, [(1, 2), (3, 1)])
        self.told_alike_again(rooms, 20, [])
        row = Row([(0, 3), (5, 1)])
        number_of(20, row)[0].append("spoiled")
        self.assertEqual(number_of(20, row), ([(1, 1), (3, 1)], number_of(20, row)[1]))

    def test_kinds(self):
        self.assertEqual({type(pair) for pair in rooms(20, [(1, 2), (3, 1)])}, {tuple})
        for row in (Row([(0, 3), (5, 1)]), Row([])):
            told = number_of(20, row)
            self.assertIs(type(told), tuple)
            self.assertIs(type(told[0]), list)
            self.assertIs(type(told[1]), int)
            self.assertTrue(all(type(pair) is tuple for pair in told[0]))
        self.assertIs(type(how_many(20, [])), int)
        self.assertIs(type(in_all(20, 0)), int)
        self.assertIs(type(in_all(0, 20)), int)


if __name__ == "__main__":
    unittest.main()
