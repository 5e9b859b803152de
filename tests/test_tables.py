"""Points 6.1 to 6.3: tables of lumps."""

import unittest

from lumprow.errors import BadTable, TooMany
from lumprow.rows import Row, ball_count, moved
from lumprow.tables import lumps_of, row_of, table_of
from lumprow.texts import pictured
from lumprow.thinning import put_in, thickened

from helping import (
    FORTY, GREATEST, RefusalCase, line_of, scaled, scattered, small_rows, spaced, tables, triples_of_line)


def row_by_layers(table):
    """Point 6.2 layer by layer, for small sizes."""
    row = Row([])
    for size in range(max((triple[0] for triple in table), default=0), 0, -1):
        row = put_in(row, [(spot, number) for other, spot, number in table if other == size])
    return row


class TableOf(RefusalCase):
    def test_by_hand(self):
        for line, table in (
                ("", []), ("*", [(1, 0, 1)]), ("***", [(3, 0, 1)]), ("*.*.*", [(1, 0, 3)]), ("**.*", [(1, 1, 1), (2, 0, 1)]),
                ("*.**", [(1, 0, 1), (2, 0, 1)]), ("**.**", [(1, 1, 1), (3, 0, 1)]),
                ("..**.*...*..", [(1, 3, 1), (1, 5, 1), (2, 2, 1)]), ("**..**", [(2, 0, 2)])):
            self.assertEqual(table_of(pictured(line, 0)), table, line)

    def test_every_small_row_letter_by_letter(self):
        for places, row in small_rows(11):
            self.assertEqual(table_of(row), triples_of_line(line_of(row, -2, 15), -2))

    def test_rows_of_30_stretches_letter_by_letter(self):
        for seed in range(30):
            row = scattered(seed, 30, 1 + seed % 7, 1 + seed % 5)
            self.assertEqual(table_of(row), triples_of_line(line_of(row, -60, 600), -60))

    def test_great_rows_as_small_ones(self):
        for seed in range(20):
            small = scattered(seed, 1 + 2 * seed % 30, 9, 6)
            table = triples_of_line(line_of(small, -60, 600), -60)
            for by in (FORTY, 10 ** 58 + 7):
                great = [(size * by, spot * by, number) for size, spot, number in table]
                self.assertEqual(table_of(scaled(small, by)), great)

    def test_great_rows_by_hand(self):
        self.assertEqual(table_of(Row([(-GREATEST, GREATEST)])), [(GREATEST, -GREATEST, 1)])
        self.assertEqual(table_of(Row([(0, GREATEST), (GREATEST + 5, GREATEST)])),
                         [(5, GREATEST - 5, 1), (2 * GREATEST - 5, 0, 1)])
        self.assertEqual(table_of(Row([(-GREATEST, FORTY), (GREATEST, FORTY)])),
                         [(FORTY, -GREATEST, 1), (FORTY, GREATEST - 2 * FORTY, 1)])

    def test_kinds(self):
        table = table_of(Row([(0, 2), (3, 1)]))
        self.assertIs(type(table), list)
        self.assertEqual([type(triple) for triple in table], [tuple, tuple])

    def test_as_many_lumps_as_stretches_and_as_many_balls(self):
        rows = [row for places, row in small_rows(9)]
        rows.extend(scaled(scattered(seed, seed, 9, 7), FORTY) for seed in range(31))
        for row in rows:
            table = table_of(row)
            self.assertEqual(sum(number for size, spot, number in table), len(row.stretches))
            self.assertEqual(sum(number * size for size, spot, number in table), ball_count(row))
            self.assertEqual(table, sorted(table))
            self.assertEqual(len({(size, spot) for size, spot, number in table}), len(table))

    def test_the_row_without_a_ball(self):
        self.assertEqual(table_of(Row([])), [])

    def test_moved_rows(self):
        for places, row in small_rows(8):
            table = table_of(row)
            for by in (1, -7, GREATEST, -GREATEST):
                self.assertEqual(table_of(moved(row, by)), [(size, spot + by, number) for size, spot, number in table])


class RowOf(RefusalCase):
    def test_by_hand(self):
        for table, line in (([], ""), ([(1, 0, 1)], "*"), ([(1, 1, 1), (3, 0, 1)], "**.**"), ([(2, 0, 2)], "**..**"),
                            ([(1, 3, 1), (1, 5, 1), (2, 2, 1)], "..**.*...*.."), ([(1, 0, 3)], "*.*.*")):
            self.assertEqual(row_of(table).stretches, pictured(line, 0).stretches)
            self.assertIs(type(row_of(table)), Row)

    def test_the_table_of_every_small_row(self):
        for places, row in small_rows(11):
            self.assertEqual(row_of(table_of(row)).stretches, row.stretches)

    def test_the_tables_of_great_rows(self):
        for seed in range(31):
            for by, move in ((1, 0), (FORTY, GREATEST), (10 ** 58 + 7, -GREATEST)):
                row = moved(scaled(scattered(seed, seed, 9, 7), by), move)
                self.assertEqual(row_of(table_of(row)).stretches, row.stretches)

    def test_layer_by_layer(self):
        for table in tables(9, 12, 200):
            self.assertEqual(row_of(table).stretches, row_by_layers(table).stretches)

    def test_the_row_of_every_table(self):
        for most_size, widest in ((1, 4), (4, 3), (9, 40), (3, GREATEST), (FORTY, FORTY), (GREATEST, 5),
                                  (GREATEST, GREATEST)):
            for table in tables(most_size, widest, 60):
                row = row_of(table)
                self.assertEqual(table_of(row), table)
                self.assertEqual(len(row.stretches), sum(number for size, spot, number in table))

    def test_no_two_small_tables_have_one_row(self):
        keys = [(size, spot) for size in (1, 2, 3) for spot in (-1, 0, 1)]
        told = {}
        for bits in range(1 << len(keys)):
            table = [key + (1 + k % 2,) for k, key in enumerate(keys) if bits >> k & 1]
            told[row_of(table).stretches] = table
        self.assertEqual(len(told), 1 << len(keys))

    def test_moved_tables(self):
        for table in tables(6, 9, 40):
            for by in (3, -GREATEST):
                further = [(size, spot + by, number) for size, spot, number in table]
                self.assertEqual(row_of(further).stretches, moved(row_of(table), by).stretches)

    def test_thickened_rows_have_greater_lumps(self):
        for table in tables(6, 9, 40):
            greater = [(size + FORTY, spot, number) for size, spot, number in table]
            self.assertEqual(row_of(greater).stretches, thickened(row_of(table), FORTY).stretches)


class Refused(RefusalCase):
    def test_not_ascending(self):
        self.refused(BadTable, row_of, [(2, 0, 1), (1, 0, 1)])
        self.refused(BadTable, row_of, [(1, 5, 1), (1, 4, 1)])
        self.refused(BadTable, row_of, [(1, 0, 1), (3, -9, 2), (2, 9, 1), (4, 0, 1)])
        self.refused(BadTable, row_of, [(1, 0, 1), (2, 0, 1), (2, -GREATEST, 1)])
        self.assertEqual(len(row_of([(1, 5, 1), (2, 4, 1)]).stretches), 2)

    def test_a_size_and_spot_told_twice(self):
        self.refused(BadTable, row_of, [(1, 0, 1), (1, 0, 1)])
        self.refused(BadTable, row_of, [(1, 0, 1), (1, 0, 2)])
        self.refused(BadTable, row_of, [(1, 0, 2), (1, 0, 1)])
        self.refused(BadTable, row_of, [(1, 7, 1), (2, 7, 1), (2, 7, 3), (5, 0, 1)])

    def test_a_size_below_1(self):
        for size in (0, -1, -GREATEST):
            self.refused(BadTable, row_of, [(size, 0, 1)])
            self.refused(BadTable, row_of, [(size, 0, 1), (1, 0, 1)])

    def test_a_number_below_1(self):
        for number in (0, -1, -GREATEST):
            self.refused(BadTable, row_of, [(1, 0, number)])
            self.refused(BadTable, row_of, [(1, 0, 1), (2, 0, 1), (2, 1, number)])
            self.refused(BadTable, row_of, [(1, 0, 31), (2, 0, number)])

    def test_30_and_31_lumps(self):
        self.assertEqual(row_of([(1, 4, 30)]).stretches, tuple(spaced(30, 4)))
        self.assertEqual(len(row_of([(size, 0, 1) for size in range(1, 31)]).stretches), 30)
        self.assertEqual(len(row_of([(1, 0, 10), (1, 1, 10), (GREATEST, 0, 10)]).stretches), 30)
        self.refused(TooMany, row_of, [(1, 4, 31)])
        self.refused(TooMany, row_of, [(1, 4, GREATEST)])
        self.refused(TooMany, row_of, [(size, 0, 1) for size in range(1, 32)])
        self.refused(TooMany, row_of, [(1, spot, 1) for spot in range(31)])
        self.refused(TooMany, row_of, [(1, 0, 10), (1, 1, 10), (GREATEST, 0, 11)])

    def test_bad_table_goes_ahead_of_too_many(self):
        self.refused(BadTable, row_of, [(1, 0, 31), (1, 0, 1)])
        self.refused(BadTable, row_of, [(1, 0, 31), (0, 0, 1)])
        self.refused(BadTable, row_of, [(2, 0, 31), (1, 0, 31)])
        self.refused(BadTable, row_of, [(1, spot, 1) for spot in range(40)] + [(1, 39, 1)])
        self.refused(BadTable, row_of, [(0, 0, 31)])


class Lumps(RefusalCase):
    def test_by_hand(self):
        self.assertEqual(lumps_of(Row([])), [])
        self.assertEqual(lumps_of(pictured("..**.*...*..", 0)), [(1, 2), (2, 1)])
        self.assertEqual(lumps_of(Row(spaced(30))), [(1, 30)])
        self.assertEqual(lumps_of(Row([(0, GREATEST), (GREATEST + 5, GREATEST)])), [(5, 1), (2 * GREATEST - 5, 1)])

    def test_each_size_of_the_table_once(self):
        for table in tables(5, 6, 80):
            sizes = sorted({size for size, spot, number in table})
            told = lumps_of(row_of(table))
            self.assertEqual(told, [(size, sum(t[2] for t in table if t[0] == size)) for size in sizes])

    def test_kinds(self):
        told = lumps_of(Row([(0, 2), (3, 1)]))
        self.assertIs(type(told), list)
        self.assertEqual([type(pair) for pair in told], [tuple, tuple])


class HandedIn(RefusalCase):
    def test_rows_and_tables_stay(self):
        row = Row([(-3, 2), (0, 1)])
        table = table_of(row)
        lumps_of(row)
        self.assertEqual(row.stretches, ((-3, 2), (0, 1)))
        kept = list(table)
        told = row_of(table)
        self.assertEqual(table, kept)
        table.clear()
        self.assertEqual(told.stretches, row.stretches)

    def test_tables_stay_where_they_are_refused(self):
        for table in ([(2, 0, 1), (1, 0, 1)], [(1, 0, 31)]):
            kept = list(table)
            self.refused(TooMany if len(table) == 1 else BadTable, row_of, table)
            self.assertEqual(table, kept)

    def test_told_alike_again(self):
        for row in (Row([]), Row([(-3, 2), (0, 1), (9, 4)])):
            self.told_alike_again(table_of, row)
            self.told_alike_again(lumps_of, row)


if __name__ == "__main__":
    unittest.main()
