"""Points 8.1 to 8.4: what all ferries keep."""

import random
import unittest

from lumprow.errors import BadSeats, BadTable, NoRow, TooMany
from lumprow.ferries import back, gone, taken
from lumprow.jumps import after
from lumprow.kept import columns, lumps_by, same_lumps, takings, told_taking
from lumprow.rows import Row, ball_count, mirrored, moved
from lumprow.tables import lumps_of, row_of
from lumprow.texts import pictured

from helping import (
    FORTY, GREATEST, NO_LUMPS, NO_LUMPS_OF_MANY, RefusalCase, ferried, great_rows, places_of, scaled, scattered,
    seats_to_try, small_rows, spaced, tables)

TOO_MANY_LUMPS = (
    [(1, 31)], [(1, GREATEST)], [(1, 15), (2, 16)], [(1, 30), (GREATEST, 1)], [(size, 1) for size in range(1, 32)],
    [(GREATEST, 10 ** 30)])


def some_lumps(count, most_size, most_number):
    """So many lists of lumps, of few and of many sizes, the same ones each time."""
    chance = random.Random(most_size)
    for k in range(count):
        sizes = sorted({chance.randint(1, most_size) for size in range(chance.randint(0, 9))})
        yield [(size, chance.randint(1, most_number)) for size in sizes]


def columns_by_counting(lumps):
    """Column by column, each counted by itself."""
    heights = [sum(number for size, number in lumps if size >= k) for k in range(1, max(lumps, default=(0,))[0] + 1)]
    return [(height, heights.count(height)) for height in sorted(set(heights))]


class Takings(RefusalCase):
    def test_by_hand(self):
        self.assertEqual(takings(pictured("****.**...", 0), 7), [2, 3, 4, 5, 6, 6, 6])
        self.assertEqual(takings(pictured("***..*", 0), 4), [2, 3, 4, 4])
        self.assertEqual(takings(Row([(7, GREATEST)]), 3), [1, 2, 3])
        self.assertEqual(takings(Row(spaced(30)), 2), [30, 30])

    def test_every_small_row_box_by_box(self):
        for places, row in small_rows(9):
            self.assertEqual(takings(row, 11), [ferried(places, seats)[1] for seats in range(1, 12)])

    def test_rows_of_30_stretches_box_by_box(self):
        for seed in range(12):
            row = scattered(seed, 30, 1 + seed % 6, 1 + seed % 5)
            places = places_of(row)
            self.assertEqual(takings(row, 40), [ferried(places, seats)[1] for seats in range(1, 41)])

    def test_of_great_rows(self):
        for small, by, move, row in great_rows():
            # Each lump is greater than all of these ferries.
            self.assertEqual(takings(row, 100), [seats * len(row.stretches) for seats in range(1, 101)])

    def test_kept_by_goings_on_and_back(self):
        for seed in range(30):
            row = scattered(seed, 1 + seed, 7, 5)
            told = takings(row, 30)
            for seats in (1, 2, 3, 6, GREATEST, None):
                self.assertEqual(takings(gone(row, seats), 30), told)
                self.assertEqual(takings(back(row, seats), 30), told)
                self.assertEqual(takings(after(row, seats, GREATEST), 30), told)
                self.assertEqual(takings(after(row, seats, -GREATEST), 30), told)

    def test_so_many_of_them(self):
        row = scattered(3, 20, 9, 4)
        for most in (1, 2, 99, 100):
            told = takings(row, most)
            self.assertEqual(told, [ferried(places_of(row), seats)[1] for seats in range(1, most + 1)])
            self.assertEqual(len(told), most)

    def test_below_1_and_above_100(self):
        for row in (Row([]), Row([(0, 3)]), Row([(0, GREATEST), (GREATEST + 1, 1)])):
            for most in (0, -1, -100, -GREATEST):
                self.refused(BadSeats, takings, row, most)
            for most in (101, 102, 1000, GREATEST):
                self.refused(TooMany, takings, row, most)

    def test_the_row_without_a_ball(self):
        for most in (1, 5, 100):
            self.assertEqual(takings(Row([]), most), [0] * most)


class ToldTaking(RefusalCase):
    def test_by_hand(self):
        lumps = [(1, 2), (3, 1), (8, 4)]
        for seats, told in ((1, 7), (2, 12), (3, 17), (4, 21), (8, 37), (9, 37), (GREATEST, 37), (None, 37)):
            self.assertEqual(told_taking(lumps, seats), told)

    def test_every_small_row_box_by_box(self):
        for places, row in small_rows(9):
            for seats in seats_to_try(row):
                self.assertEqual(told_taking(lumps_of(row), seats), ferried(places, seats)[1])

    def test_what_is_taken_from_rows_of_such_lumps(self):
        for most_size, widest in ((5, 9), (40, 9), (GREATEST, 9), (GREATEST, GREATEST)):
            for table in tables(most_size, widest, 25):
                row = row_of(table)
                for seats in (1, 2, 3, 10, FORTY, 5 * 10 ** 59, GREATEST, None):
                    self.assertEqual(told_taking(lumps_of(row), seats), taken(row, seats))

    def test_great_rows_as_small_ones(self):
        for small, by, move, row in great_rows():
            for seats in (1, 2, 3, 9, 40):
                self.assertEqual(told_taking(lumps_of(row), seats * by), ferried(places_of(small), seats)[1] * by)
            self.assertEqual(told_taking(lumps_of(row), None), ball_count(row))

    def test_no_lumps_at_all(self):
        for seats in (1, GREATEST, None):
            self.assertEqual(told_taking([], seats), 0)

    def test_lists_that_are_no_lumps(self):
        for seats in (1, 5, GREATEST, None):
            for lumps in NO_LUMPS + NO_LUMPS_OF_MANY:
                self.refused(BadTable, told_taking, lumps, seats)

    def test_30_lumps_and_more(self):
        self.assertEqual(told_taking([(1, 30)], 4), 30)
        self.assertEqual(told_taking([(1, 10), (GREATEST, 20)], 4), 90)
        self.assertEqual(told_taking([(size, 1) for size in range(1, 31)], None), 465)
        for seats in (1, 5, None):
            for lumps in TOO_MANY_LUMPS:
                self.refused(TooMany, told_taking, lumps, seats)

    def test_seats_below_1_go_first(self):
        for seats in (0, -1, -GREATEST):
            for lumps in ([], [(1, 1)], [(1, 2), (3, 1)]) + NO_LUMPS + NO_LUMPS_OF_MANY + TOO_MANY_LUMPS:
                self.refused(BadSeats, told_taking, lumps, seats)


class LumpsBy(RefusalCase):
    def test_by_hand(self):
        for told, lumps in (
                ([2, 3, 4, 4], [(1, 1), (3, 1)]), ([0], []), ([0, 0], []), ([1, 1], [(1, 1)]),
                ([2, 3, 3], [(1, 1), (2, 1)]), ([30, 30], [(1, 30)]), ([1, 2, 3, 4, 4, 4], [(4, 1)]),
                ([2, 3, 4, 5, 6, 6, 6], [(1, 1), (5, 1)])):
            self.assertEqual(lumps_by(told), lumps)

    def test_the_takings_of_every_small_row(self):
        for places, row in small_rows(9):
            greatest = max([size for size, number in lumps_of(row)], default=0)
            for most in range(1, 12):
                told = [ferried(places, seats)[1] for seats in range(1, most + 1)]
                if most > greatest:
                    self.assertEqual(lumps_by(told), lumps_of(row))
                else:
                    self.refused(NoRow, lumps_by, told)

    def test_the_takings_of_rows_of_30_stretches(self):
        for seed in range(31):
            row = scattered(seed, seed, 3, 5)
            self.assertEqual(lumps_by(takings(row, 100)), lumps_of(row))

    def test_lumps_up_to_the_size_of_99(self):
        self.assertEqual(lumps_by(takings(Row([(0, 99)]), 100)), [(99, 1)])
        self.refused(NoRow, lumps_by, takings(Row([(0, 100)]), 100))
        self.refused(NoRow, lumps_by, takings(Row([(0, GREATEST)]), 100))

    def test_one_number(self):
        self.assertEqual(lumps_by([0]), [])
        for number in (1, -1, 5, GREATEST, -GREATEST):
            self.refused(NoRow, lumps_by, [number])

    def test_none_is_refused_for_its_length(self):
        self.assertEqual(lumps_by([]), [])
        self.assertEqual(lumps_by([3] * 101), [(1, 3)])
        self.assertEqual(lumps_by(list(range(1, 103)) + [102]), [(102, 1)])

    def test_the_last_two_are_unlike(self):
        for told in ([0, 1], [1, 2], [1, 0], [2, 3, 4], [2, 3, 4, 4, 5], [2, 3, 4, 4, 3], [0, 0, 0, -1], [4, 4, 5],
                     [-3, 5], [GREATEST, GREATEST - 1], list(range(1, 101))):
            self.refused(NoRow, lumps_by, told)

    def test_a_number_of_lumps_below_nought(self):
        for told in ([0, 1, 1], [1, 3, 3], [5, 3, 3], [-1, -1], [2, 2, 3, 3], [2, 3, 4, 4, 3, 3], [1, 2, 3, 3, 4, 4],
                     [-GREATEST, -GREATEST], [GREATEST, 0, 0], [0] * 50 + [1] * 50, [4, 1, 4, 4], [9, 8, 8, 8]):
            self.refused(NoRow, lumps_by, told)

    def test_every_short_list_of_small_numbers(self):
        for a in range(-2, 6):
            for b in range(-2, 6):
                for c in range(-2, 6):
                    numbers = [(1, 2 * a - b), (2, 2 * b - a - c)]
                    if b == c and numbers[0][1] >= 0 and numbers[1][1] >= 0:
                        self.assertEqual(lumps_by([a, b, c]), [pair for pair in numbers if pair[1]])
                    else:
                        self.refused(NoRow, lumps_by, [a, b, c])

    def test_more_than_30_lumps_are_told(self):
        self.assertEqual(lumps_by([31, 31]), [(1, 31)])
        self.assertEqual(lumps_by([40, 60, 60]), [(1, 20), (2, 20)])
        self.assertEqual(lumps_by([GREATEST, GREATEST]), [(1, GREATEST)])
        self.assertEqual(lumps_by([GREATEST, 2 * GREATEST, 2 * GREATEST]), [(2, GREATEST)])
        self.assertEqual(lumps_by([99 * seats - seats * (seats - 1) // 2 for seats in range(1, 101)]),
                         [(size, 1) for size in range(1, 100)])


class Columns(RefusalCase):
    def test_by_hand(self):
        for lumps, told in (
                ([], []), ([(1, 1)], [(1, 1)]), ([(1, 2), (3, 1)], [(1, 2), (3, 1)]), ([(5, 1)], [(1, 5)]),
                ([(1, 5)], [(5, 1)]), ([(2, 3), (4, 1), (9, 2)], [(2, 5), (3, 2), (6, 2)]),
                ([(GREATEST, 1)], [(1, GREATEST)]), ([(1, GREATEST)], [(GREATEST, 1)]),
                ([(FORTY, GREATEST), (GREATEST, 2)], [(2, GREATEST - FORTY), (GREATEST + 2, FORTY)])):
            self.assertEqual(columns(lumps), told)

    def test_by_counting(self):
        for most_size in (1, 2, 5, 12, 60):
            for lumps in some_lumps(60, most_size, 6):
                self.assertEqual(columns(lumps), columns_by_counting(lumps))

    def test_the_columns_of_the_columns(self):
        for most_size in (1, 3, 12, 60, FORTY, GREATEST):
            for most_number in (1, 9, GREATEST):
                for lumps in some_lumps(30, most_size, most_number):
                    self.assertEqual(columns(columns(lumps)), lumps)

    def test_great_sizes_and_numbers(self):
        for lumps in some_lumps(40, GREATEST, GREATEST):
            told = columns(lumps)
            self.assertEqual(sum(how_many for height, how_many in told), max(lumps, default=(0,))[0])
            self.assertEqual(sum(height * how_many for height, how_many in told),
                             sum(size * number for size, number in lumps))
            for size, number in lumps:
                self.assertIn(sum(n for other, n in lumps if other >= size), [height for height, how_many in told])

    def test_a_taking_is_the_sum_of_the_first_columns(self):
        for seed in range(1, 31):
            row = scattered(seed, seed, 4, 4)
            # The first columns are the highest ones.
            heights = []
            for height, how_many in reversed(columns(lumps_of(row))):
                heights.extend([height] * how_many)
            for seats in (1, 2, 3, 5, 8, 30):
                self.assertEqual(sum(heights[:seats]), ferried(places_of(row), seats)[1])
            self.assertEqual(sum(heights), ball_count(row))

    def test_lists_that_are_no_lumps(self):
        for lumps in NO_LUMPS + NO_LUMPS_OF_MANY:
            self.refused(BadTable, columns, lumps)

    def test_none_is_refused_for_its_number(self):
        for lumps in TOO_MANY_LUMPS:
            self.assertEqual(columns(columns(lumps)), lumps)
        self.assertEqual(columns([(1, 31)]), [(31, 1)])
        self.assertEqual(columns([(1, 30), (GREATEST, 1)]), [(1, GREATEST - 1), (31, 1)])
        self.assertEqual(columns([(size, 1) for size in range(1, 201)]), [(size, 1) for size in range(1, 201)])


class SameLumps(RefusalCase):
    def test_rows_behind_goings(self):
        rows = [scattered(seed, seed, 7, 4) for seed in range(31)] + [row for small, by, move, row in great_rows()]
        for row in rows:
            for seats, times in ((1, 1), (2, -3), (3, GREATEST), (FORTY, 2), (None, -GREATEST)):
                self.assertIs(same_lumps(row, after(row, seats, times)), True)
                self.assertIs(same_lumps(after(row, seats, times), row), True)
            self.assertIs(same_lumps(row, moved(row, GREATEST)), True)
            self.assertIs(same_lumps(row, mirrored(row)), True)

    def test_rows_that_no_goings_join(self):
        # Two lumps of one size never come nearer to one another, and still are the same lumps.
        self.assertIs(same_lumps(Row([(0, 2), (4, 2)]), Row([(0, 2), (GREATEST, 2)])), True)
        self.assertIs(same_lumps(pictured("**.**", 0), pictured("****.*", 0)), False)
        self.assertIs(same_lumps(pictured("**.*", 0), pictured("*.**", 0)), True)

    def test_other_lumps(self):
        self.assertIs(same_lumps(Row([(0, 2)]), Row([(0, 1), (2, 1)])), False)
        self.assertIs(same_lumps(Row([(0, 1)]), Row([(0, 1), (2, 1)])), False)
        self.assertIs(same_lumps(Row([(0, 3), (9, 1)]), Row([(0, 2), (9, 2)])), False)
        self.assertIs(same_lumps(Row([(0, GREATEST)]), Row([(0, GREATEST - 1)])), False)
        self.assertIs(same_lumps(Row([]), Row([(0, 1)])), False)
        self.assertIs(same_lumps(Row([(0, 1)]), Row([])), False)
        self.assertIs(same_lumps(Row([]), Row([])), True)

    def test_just_where_all_takings_are_alike(self):
        rows = [row for places, row in small_rows(6)]
        told = [[ferried(places_of(row), seats)[1] for seats in range(1, 7)] for row in rows]
        for one, takes in zip(rows, told):
            for two, others in zip(rows, told):
                self.assertIs(same_lumps(one, two), takes == others)

    def test_great_rows(self):
        for seed in range(6):
            row = scaled(scattered(seed, 9, 6, 4), FORTY)
            self.assertIs(same_lumps(row, scaled(scattered(seed, 9, 6, 4), FORTY + 1)), False)
            first = row.stretches[0]
            longer = Row([(first[0] - 1, first[1] + 1)] + list(row.stretches[1:]))
            self.assertIs(same_lumps(row, longer), False)


class HandedIn(RefusalCase):
    def test_rows_and_lists_stay(self):
        row = Row([(-3, 2), (0, 1)])
        lumps = [(1, 2), (3, 1)]
        told = [2, 3, 4, 4]
        takings(row, 5)
        same_lumps(row, row)
        told_taking(lumps, 2)
        columns(lumps)
        lumps_by(told)
        self.assertEqual(row.stretches, ((-3, 2), (0, 1)))
        self.assertEqual(lumps, [(1, 2), (3, 1)])
        self.assertEqual(told, [2, 3, 4, 4])

    def test_lists_stay_where_they_are_refused(self):
        for lumps in NO_LUMPS + NO_LUMPS_OF_MANY:
            kept = list(lumps)
            self.refused(BadTable, columns, lumps)
            self.refused(BadTable, told_taking, lumps, 2)
            self.assertEqual(lumps, kept)
        told = [2, 3, 4]
        self.refused(NoRow, lumps_by, told)
        self.assertEqual(told, [2, 3, 4])

    def test_told_alike_again(self):
        self.told_alike_again(takings, Row([(-3, 2), (0, 1)]), 4)
        self.told_alike_again(takings, Row([]), 1)
        self.told_alike_again(lumps_by, [2, 3, 4, 4])
        self.told_alike_again(lumps_by, [0])
        self.told_alike_again(columns, [(1, 2), (3, 1)])
        self.told_alike_again(columns, [])

    def test_kinds(self):
        self.assertEqual({type(pair) for pair in columns([(1, 2), (3, 1)])}, {tuple})
        self.assertEqual({type(pair) for pair in lumps_by([2, 3, 4, 4])}, {tuple})
        self.assertEqual({type(number) for number in takings(Row([(-3, 2), (0, 1)]), 4)}, {int})


if __name__ == "__main__":
    unittest.main()
