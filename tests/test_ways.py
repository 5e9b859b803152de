"""Points 11.1 to 11.3: which ferries lead from row to row."""

import random
import unittest

from lumprow.errors import BadSeats
from lumprow.ferries import gone
from lumprow.jumps import after, done
from lumprow.rows import Row, mirrored, moved
from lumprow.tables import row_of, table_of
from lumprow.texts import pictured
from lumprow.ways import led_by, ways

from helping import (
    FORTY, GREATEST, RefusalCase, ferried_so_often, great_rows, line_of, pairs_of, places_of, scattered, small_rows,
    spaced, tables, triples_of_line)

MOVES = (0, 0, 1, -1, 2, -3, 7, -60, FORTY, -FORTY, GREATEST, -GREATEST, 10 ** 30 + 7)
# Each pair of tables is of rows that no goings join, each for another reason.
NOT_JOINED = (
    ([(1, 0, 1)], [(2, 0, 1)]), ([(1, 0, 1)], [(1, 0, 2)]), ([(1, 0, 1)], [(1, 0, 1), (2, 0, 1)]),
    ([(1, 0, 1), (3, 5, 1)], [(1, 0, 1), (4, 5, 1)]), ([(1, 0, 2), (3, 5, 1)], [(1, 0, 1), (3, 5, 2)]),
    ([(2, 0, 1), (2, 4, 1)], [(2, 0, 1), (2, 5, 1)]), ([(2, 0, 2)], [(2, 0, 1), (2, 1, 1)]),
    ([(2, 0, 2), (2, 5, 1)], [(2, 0, 1), (2, 5, 2)]),
    ([(2, 0, 1), (2, 3, 1), (2, 9, 1)], [(2, 0, 1), (2, 6, 1), (2, 9, 1)]),
    ([(1, 4, 1), (2, 0, 1), (2, 1, 1)], [(1, 4, 1), (2, 0, 1), (2, 2, 1)]),
    ([(1, 0, 1), (1, 1, 1), (2, 4, 1)], [(1, 0, 1), (1, 2, 1), (2, 4, 1)]),
    ([(1, 0, 1), (1, GREATEST, 1)], [(1, 0, 1), (1, GREATEST + 1, 1)]), ([], [(1, 0, 1)]), ([], [(5, -9, 3)]),
    ([(GREATEST, 0, 1)], [(GREATEST - 1, 0, 1)]), ([(1, 0, 30)], [(1, 0, 29)]), ([(1, 0, 30)], [(1, 0, 29), (1, 1, 1)]))


def by_sizes(row):
    """For each size the spots of its lumps, letter by letter; the row lies within 20 boxes of 0."""
    told = {}
    for size, spot, number in triples_of_line(line_of(row, -20, 20), -20):
        told.setdefault(size, []).extend([spot] * number)
    return told


def joined(one, two):
    """Whether 11.1 tells that goings lead from one small row to the other."""
    here, there = by_sizes(one), by_sizes(two)
    return {size: len(spots) for size, spots in here.items()} == {size: len(spots) for size, spots in there.items()} \
        and all(len({b - a for a, b in zip(here[size], there[size])}) == 1 for size in here)


def moved_by_size(table, moves):
    return [(size, spot + moves[size], number) for size, spot, number in table]


class WaysCase(RefusalCase):
    def right_ways(self, one, two):
        """Asserts that what is told leads from one to two, in any order, and is of the told form; gives it back."""
        told = ways(one, two)
        self.assertIs(type(told), list)
        self.assertTrue(all(type(pair) is tuple and len(pair) == 2 for pair in told))
        seats = [pair[0] for pair in told]
        numbers = [number for number in seats if number is not None]
        self.assertEqual(seats, numbers + [None] * (len(seats) - len(numbers)))
        self.assertEqual(numbers, sorted(set(numbers)))
        self.assertLessEqual(seats.count(None), 1)
        self.assertTrue(all(number >= 1 for number in numbers))
        self.assertTrue(all(type(goings) is int and goings != 0 for number, goings in told))
        self.assertLessEqual(len(told), 2 * len({size for size, spot, number in table_of(one)}))
        self.leads(one, two, told)
        self.assertEqual(ways(one, two), told)
        return told

    def leads(self, one, two, told):
        orders = [list(told), told[::-1], sorted(told, key=lambda pair: pair[1])]
        for order in orders:
            self.assertEqual(done(one, order).stretches, two.stretches)
        random.Random(len(told)).shuffle(orders[0])
        row = one
        for seats, goings in orders[0]:
            row = after(row, seats, goings)
        self.assertEqual(row.stretches, two.stretches)


class Ways(WaysCase):
    def test_by_hand(self):
        for one, two in (("*....", "....*"), ("**....", "..**.."), ("**.....", "...**."), ("**.*....", ".**..*.."),
                         ("***..*.......", ".....*..***.."), ("*.**", "**.*")):
            self.right_ways(pictured(one, 0), pictured(two, 0))
            self.right_ways(pictured(two, 0), pictured(one, 0))

    def test_from_box_to_box(self):
        chance = random.Random(5)
        for k in range(60):
            one = scattered(k, 1 + k % 5, 4, 4)
            moves = {size: chance.randint(-5, 5) for size in range(1, 21)}
            two = row_of(moved_by_size(table_of(one), moves))
            for told in (ways(one, two), ways(one, two)[::-1]):
                places = places_of(one)
                for seats, goings in told:
                    places = ferried_so_often(places, seats, goings)
                self.assertEqual(pairs_of(places), two.stretches)

    def test_every_two_small_rows(self):
        rows = [row for places, row in small_rows(6)]
        for one in rows:
            for two in rows[::3]:
                if joined(one, two):
                    self.right_ways(one, two)
                else:
                    self.assertIsNone(ways(one, two))

    def test_every_size_moved_by_a_number_of_its_own(self):
        chance = random.Random(11)
        for most_size in (1, 2, 4, 9, 40, GREATEST):
            for table in tables(most_size, 12, 12):
                moves = {size: chance.choice(MOVES) for size, spot, number in table}
                one, two = row_of(table), row_of(moved_by_size(table, moves))
                self.right_ways(one, two)
                self.right_ways(two, one)

    def test_one_size_alone_is_moved(self):
        for table in tables(12, 20, 15):
            sizes = sorted({size for size, spot, number in table})
            for mover in (sizes[0], sizes[len(sizes) // 2], sizes[-1]):
                for by in (1, -1, GREATEST, -FORTY):
                    moves = {size: by if size == mover else 0 for size in sizes}
                    told = self.right_ways(row_of(table), row_of(moved_by_size(table, moves)))
                    self.assertNotEqual(told, [])

    def test_30_unlike_sizes(self):
        chance = random.Random(30)
        for step in (1, 2, 10, FORTY):
            table = [(1 + step * k, chance.randint(-50, 50), 1) for k in range(30)]
            moves = {size: chance.randint(-10 ** 6, 10 ** 6) for size, spot, number in table}
            self.right_ways(row_of(table), row_of(moved_by_size(table, moves)))

    def test_rests_of_either_sign(self):
        for size in (1, 2, 3, 7, 10, GREATEST):
            for by in (0, 1, -1, size - 1, 1 - size, size, -size, size + 1, -size - 1, 5 * size + 3, -5 * size - 3):
                self.right_ways(Row([(4, size)]), Row([(4 + by, size)]))
                one = [(1, 0, 2), (size + 1, 3, 1), (2 * size + 2, 8, 1)]
                two = [(1, 4, 2), (size + 1, 3 + by, 1), (2 * size + 2, 8, 1)]
                self.right_ways(row_of(one), row_of(two))

    def test_behind_goings(self):
        rows = [scattered(seed, seed, 6, 5) for seed in range(0, 31, 3)]
        rows.extend(row for small, by, move, row in great_rows())
        for row in rows:
            for deeds in ([(1, 5)], [(2, -GREATEST)], [(None, 3), (4, -1)], [(3, 9), (FORTY, -2), (None, GREATEST)]):
                self.right_ways(row, done(row, deeds))
            self.right_ways(row, moved(row, -GREATEST))

    def test_alike_rows(self):
        for row in [Row([]), Row([(0, 1)]), Row(spaced(30))] + [row for small, by, move, row in great_rows()]:
            self.assertEqual(ways(row, Row(row.stretches)), [])
            self.assertEqual(ways(row, row), [])

    def test_rows_that_no_goings_join(self):
        for here, there in NOT_JOINED:
            for move in (0, 3, -GREATEST):
                one, two = row_of(here), moved(row_of(there), move)
                self.assertIsNone(ways(one, two))
                self.assertIsNone(ways(two, one))

    def test_rows_with_the_same_lumps_at_other_distances(self):
        self.assertIsNone(ways(pictured("*.*....", 0), pictured("*....*.", 0)))
        self.assertIsNone(ways(Row([(0, 2), (4, 2)]), Row([(0, 2), (GREATEST, 2)])))
        row = Row([(0, 2), (5, 2), (13, 2)])
        self.assertIsNone(ways(row, mirrored(row)))

    def test_one_row_without_a_ball(self):
        for row in (Row([(0, 1)]), Row(spaced(30)), Row([(-GREATEST, GREATEST)])):
            self.assertIsNone(ways(row, Row([])))
            self.assertIsNone(ways(Row([]), row))


class LedBy(RefusalCase):
    def test_by_hand(self):
        one, two = pictured("***..*.......", 0), pictured(".....*..***..", 0)
        self.assertEqual(led_by(one, two, None), 2)
        self.assertEqual(led_by(two, one, None), -2)
        self.assertEqual(led_by(one, two, 3), 2)
        self.assertIsNone(led_by(one, two, 1))
        self.assertIsNone(led_by(one, two, 2))
        self.assertEqual(led_by(one, moved(one, 9), 1), 9)
        self.assertIsNone(led_by(one, moved(one, 9), 2))
        self.assertIsNone(led_by(one, moved(one, 9), None))

    def test_every_two_small_rows_box_by_box(self):
        rows = list(small_rows(6))
        for seats in (1, 2, 3, None):
            for places, one in rows:
                # Each going moves the first ball, so that no more goings than boxes stay among them.
                told = {}
                for times in sorted(range(-6, 7), key=abs):
                    told.setdefault(pairs_of(ferried_so_often(places, seats, times)), times)
                for others, two in rows[::2]:
                    self.assertEqual(led_by(one, two, seats), told.get(two.stretches))

    def test_on_and_back(self):
        rows = [scattered(seed, seed, 6, 5) for seed in range(1, 31, 4)]
        rows.extend(row for small, by, move, row in great_rows())
        for row in rows:
            for seats in (1, 2, 3, FORTY, GREATEST, None):
                for times in (0, 1, -60, GREATEST, -GREATEST):
                    two = after(row, seats, times)
                    self.assertEqual(led_by(row, two, seats), times)
                    self.assertEqual(led_by(two, row, seats), -times)

    def test_a_rest_is_left(self):
        for size in (2, 3, 10, GREATEST):
            for times in (0, 1, -1, 4, -FORTY):
                one = Row([(0, size)])
                self.assertEqual(led_by(one, Row([(size * times, size)]), None), times)
                self.assertEqual(led_by(one, Row([(size * times, size)]), 1), size * times)
                for over in (1, -1):
                    two = Row([(size * times + over, size)])
                    self.assertIsNone(led_by(one, two, None))
                    self.assertIsNone(led_by(one, two, size))
                    self.assertIsNone(led_by(one, two, GREATEST))
                    self.assertEqual(led_by(one, two, 1), size * times + over)

    def test_all_sizes_must_be_moved_by_the_same_goings(self):
        table = [(1, 4, 1), (3, 0, 2), (8, -7, 1)]
        right = {1: 5, 3: 10, 8: 10}
        self.assertEqual(led_by(row_of(table), row_of(moved_by_size(table, right)), 2), 5)
        for size in right:
            for by in (0, 1, -1, 2, -2, 10):
                if right[size] != by:
                    two = row_of(moved_by_size(table, right | {size: by}))
                    self.assertIsNone(led_by(row_of(table), two, 2))
                    self.assertIsNone(led_by(two, row_of(table), 2))

    def test_nought_and_none_are_told_apart(self):
        row = pictured("***..*", 0)
        for seats in (1, 2, 3, GREATEST, None):
            self.assertIs(type(led_by(row, Row(row.stretches), seats)), int)
            self.assertEqual(led_by(row, Row(row.stretches), seats), 0)
            self.assertIsNone(led_by(row, Row([(0, 1)]), seats))
        # The first size isn't moved, the second one is.
        for by in (1, 3, -3):
            two = row_of([(1, 3, 1), (3, by, 1)])
            self.assertIsNone(led_by(row, two, None))

    def test_rows_without_a_ball(self):
        for seats in (1, 2, GREATEST, None):
            self.assertEqual(led_by(Row([]), Row([]), seats), 0)
            self.assertIs(type(led_by(Row([]), Row([]), seats)), int)
            for row in (Row([(0, 1)]), Row(spaced(30)), Row([(-GREATEST, GREATEST)])):
                self.assertIsNone(led_by(row, Row([]), seats))
                self.assertIsNone(led_by(Row([]), row, seats))

    def test_rows_that_no_goings_join(self):
        for here, there in NOT_JOINED:
            for seats in (1, 2, FORTY, None):
                for move in (0, 3, -GREATEST):
                    one, two = row_of(here), moved(row_of(there), move)
                    self.assertIsNone(led_by(one, two, seats))
                    self.assertIsNone(led_by(two, one, seats))

    def test_only_by_several_ferries(self):
        row = pictured("***..*", 0)
        two = gone(gone(row, 1), 2)
        for seats in (1, 2, 3, None):
            self.assertIsNone(led_by(row, two, seats))
        self.assertIsNotNone(ways(row, two))

    def test_seats_below_1(self):
        one = pictured("***..*", 0)
        for seats in (0, -1, -2, -GREATEST):
            for two in (one, gone(one, 2), Row([]), Row([(0, 1)])):
                self.refused(BadSeats, led_by, one, two, seats)
            self.refused(BadSeats, led_by, Row([]), Row([]), seats)


class HandedIn(RefusalCase):
    def test_rows_stay(self):
        one, two = Row([(0, 3), (5, 1)]), Row([(2, 3), (9, 1)])
        ways(one, two)
        ways(one, moved(one, 2))
        led_by(one, two, 2)
        self.assertEqual(one.stretches, ((0, 3), (5, 1)))
        self.assertEqual(two.stretches, ((2, 3), (9, 1)))

    def test_told_alike_again(self):
        one = Row([(0, 3), (5, 1)])
        for two in (gone(one, 2), moved(one, -7), after(one, None, GREATEST), one):
            self.told_alike_again(ways, one, two)
        self.told_alike_again(ways, Row([]), Row([]))


if __name__ == "__main__":
    unittest.main()
