"""Points 7.1 and 7.2: so many goings at once."""

import random
import unittest

from lumprow.errors import BadSeats, BadTable, TooMany
from lumprow.ferries import back, gone
from lumprow.jumps import after, done, shifted
from lumprow.rows import Row, moved
from lumprow.tables import row_of, table_of
from lumprow.texts import pictured

from helping import (
    FORTY, GREATEST, RefusalCase, ferried_so_often, great_rows, line_of, pairs_of, places_of, scaled, scattered,
    seats_to_try, small_rows, spaced, tables, triples_of_line)

ALL_SEATS = (1, 2, 3, 5, GREATEST, None)


def one_by_one(row, deeds):
    """The stretches behind deeds, each going done by itself, from box to box."""
    places = places_of(row)
    for seats, times in deeds:
        places = ferried_so_often(places, seats, times)
    return pairs_of(places)


def some_deeds(seed, count):
    """So many deeds, some of them with times 0 or of seats told before: the same ones each time."""
    chance = random.Random(seed)
    return [(chance.choice((1, 2, 3, 4, None)), chance.randint(-4, 4)) for k in range(count)]


class After(RefusalCase):
    def test_by_pictures(self):
        for before, seats, times, behind in (
                ("***..*.......", None, 1, "...**.**....."), ("***..*.......", None, 2, ".....*..***.."),
                ("***..*.......", 2, 2, "....**.**...."), (".....*..***..", None, -2, "***..*......."),
                ("***..*.......", 1, 5, ".....***..*.."), ("***..*.......", 3, 0, "***..*.......")):
            self.assertEqual(after(pictured(before, 0), seats, times).stretches, pictured(behind, 0).stretches, before)

    def test_every_small_row_one_by_one(self):
        for places, row in small_rows(8):
            for seats in (1, 2, 3, None):
                on = on_back = places
                for times in range(7):
                    self.assertEqual(after(row, seats, times).stretches, pairs_of(on))
                    self.assertEqual(after(row, seats, -times).stretches, pairs_of(on_back))
                    on = ferried_so_often(on, seats, 1)
                    on_back = ferried_so_often(on_back, seats, -1)

    def test_rows_of_30_stretches_one_by_one(self):
        for seed in range(8):
            row = scattered(seed, 30, 1 + seed % 6, 1 + seed % 5)
            for seats in seats_to_try(row):
                for times in (-9, -1, 0, 1, 2, 11):
                    self.assertEqual(after(row, seats, times).stretches, one_by_one(row, [(seats, times)]))

    def test_great_rows_as_small_ones(self):
        for small, by, move, row in great_rows():
            for seats in (1, 3, 7, None):
                for times in (-5, 1, 6):
                    told = after(row, None if seats is None else seats * by, times)
                    left = Row(one_by_one(small, [(seats, times)]))
                    self.assertEqual(told.stretches, moved(scaled(left, by), move).stretches)

    def test_great_rows_one_by_one(self):
        for small, by, move, row in great_rows():
            for seats in (1, 2, by - 1, 2 * by + 1, GREATEST, None):
                on = on_back = row
                for times in range(1, 4):
                    on = gone(on, seats)
                    on_back = back(on_back, seats)
                    self.assertEqual(after(row, seats, times).stretches, on.stretches)
                    self.assertEqual(after(row, seats, -times).stretches, on_back.stretches)

    def test_no_goings(self):
        for small, by, move, row in great_rows():
            for seats in ALL_SEATS:
                self.assertEqual(after(row, seats, 0).stretches, row.stretches)

    def test_times_of_60_figures_by_hand(self):
        row = pictured("***..*", 0)
        self.assertEqual(after(row, None, GREATEST).stretches, ((GREATEST + 3, 1), (3 * GREATEST + 2, 3)))
        self.assertEqual(after(row, None, -GREATEST).stretches, ((-3 * GREATEST, 3), (5 - GREATEST, 1)))
        self.assertEqual(after(row, 2, GREATEST).stretches, ((GREATEST + 3, 1), (2 * GREATEST + 2, 3)))
        self.assertEqual(after(row, 2, -GREATEST).stretches, ((-2 * GREATEST, 3), (5 - GREATEST, 1)))
        self.assertEqual(after(Row([(7, GREATEST)]), None, GREATEST).stretches, ((7 + GREATEST ** 2, GREATEST),))
        self.assertEqual(after(Row([(7, GREATEST)]), FORTY, -GREATEST).stretches, ((7 - FORTY * GREATEST, GREATEST),))

    def test_a_ferry_of_one_seat_moves_the_row(self):
        for small, by, move, row in great_rows():
            for times in (1, -1, 12345, GREATEST, -GREATEST):
                self.assertEqual(after(row, 1, times).stretches, moved(row, times).stretches)

    def test_times_of_60_figures_and_one_more(self):
        for small, by, move, row in great_rows():
            for seats in (1, 2, by, 4 * by + 3, GREATEST, None):
                for times in (GREATEST - 1, -GREATEST, FORTY, -10 ** 20):
                    told = after(row, seats, times)
                    self.assertEqual(gone(told, seats).stretches, after(row, seats, times + 1).stretches)
                    self.assertEqual(back(told, seats).stretches, after(row, seats, times - 1).stretches)

    def test_back_again(self):
        for small, by, move, row in great_rows():
            for seats in (1, 3, by, GREATEST, None):
                for times in (GREATEST, -GREATEST, 17):
                    self.assertEqual(after(after(row, seats, times), seats, -times).stretches, row.stretches)

    def test_goings_add_up(self):
        rows = [scattered(seed, seed, 8, 5) for seed in range(1, 31, 4)]
        for row in rows + [row for small, by, move, row in great_rows()]:
            for one, two in ((3, 4), (-5, 2), (GREATEST, -FORTY), (-GREATEST, -GREATEST), (10 ** 12, 10 ** 13)):
                for seats in (1, 2, 3, FORTY, None):
                    told = after(after(row, seats, one), seats, two)
                    self.assertEqual(told.stretches, after(row, seats, one + two).stretches)

    def test_seats_from_the_greatest_size_on_are_alike(self):
        for small, by, move, row in great_rows():
            greatest = table_of(row)[-1][0]
            for times in (1, -3, GREATEST):
                told = after(row, None, times).stretches
                self.assertEqual(after(row, greatest, times).stretches, told)
                self.assertEqual(after(row, greatest + 1, times).stretches, told)
                self.assertNotEqual(after(row, greatest - 1, times).stretches, told)

    def test_the_row_without_a_ball(self):
        for seats in ALL_SEATS:
            for times in (0, 1, -1, GREATEST, -GREATEST):
                self.assertEqual(after(Row([]), seats, times).stretches, ())

    def test_30_lumps_stay_30(self):
        for seats in (1, None):
            self.assertEqual(after(Row(spaced(30)), seats, GREATEST).stretches, tuple(spaced(30, GREATEST)))


class Shifted(RefusalCase):
    def test_by_hand(self):
        table = [(1, 3, 2), (3, -5, 1), (3, 0, 4), (8, 2, 1)]
        self.assertEqual(shifted(table, 1, 1), [(1, 4, 2), (3, -4, 1), (3, 1, 4), (8, 3, 1)])
        self.assertEqual(shifted(table, 2, 5), [(1, 8, 2), (3, 5, 1), (3, 10, 4), (8, 12, 1)])
        self.assertEqual(shifted(table, 3, -1), [(1, 2, 2), (3, -8, 1), (3, -3, 4), (8, -1, 1)])
        self.assertEqual(shifted(table, None, 2), [(1, 5, 2), (3, 1, 1), (3, 6, 4), (8, 18, 1)])
        self.assertEqual(shifted(table, 7, GREATEST), [
            (1, 3 + GREATEST, 2), (3, 3 * GREATEST - 5, 1), (3, 3 * GREATEST, 4), (8, 2 + 7 * GREATEST, 1)])
        self.assertEqual(shifted(table, 4, 0), table)

    def test_the_table_of_every_small_row_behind_the_goings(self):
        for places, row in small_rows(8):
            table = table_of(row)
            for seats in (1, 2, 3, None):
                for times in (-3, -1, 0, 1, 2):
                    behind = Row(one_by_one(row, [(seats, times)]))
                    self.assertEqual(shifted(table, seats, times), triples_of_line(line_of(behind, -40, 60), -40))

    def test_the_table_of_great_rows_behind_the_goings(self):
        for small, by, move, row in great_rows():
            for seats in (1, 2, by - 1, 2 * by + 1, GREATEST, None):
                self.assertEqual(shifted(table_of(row), seats, 1), table_of(gone(row, seats)))
                self.assertEqual(shifted(table_of(row), seats, -1), table_of(back(row, seats)))

    def test_sizes_and_numbers_are_kept(self):
        for table in tables(7, 9, 60):
            for seats in ALL_SEATS:
                for times in (1, -6, GREATEST):
                    told = shifted(table, seats, times)
                    self.assertEqual([(t[0], t[2]) for t in told], [(t[0], t[2]) for t in table])
                    self.assertEqual(told, sorted(told))
                    self.assertEqual(row_of(told).stretches, after(row_of(table), seats, times).stretches)

    def test_tables_of_great_sizes(self):
        for table in tables(GREATEST, GREATEST, 30):
            for seats in (1, FORTY, 5 * 10 ** 59, GREATEST, None):
                told = shifted(table, seats, -GREATEST)
                for before, behind in zip(table, told):
                    least = before[0] if seats is None or seats > before[0] else seats
                    self.assertEqual(behind, (before[0], before[1] - GREATEST * least, before[2]))
                self.assertEqual(shifted(told, seats, GREATEST), table)

    def test_the_empty_table(self):
        for seats in ALL_SEATS:
            for times in (0, 1, -GREATEST):
                self.assertEqual(shifted([], seats, times), [])

    def test_30_lumps(self):
        self.assertEqual(shifted([(1, 0, 10), (2, 0, 20)], None, 3), [(1, 3, 10), (2, 6, 20)])


class Done(RefusalCase):
    def test_no_deeds(self):
        for small, by, move, row in great_rows():
            self.assertEqual(done(row, []).stretches, row.stretches)

    def test_one_deed(self):
        for places, row in small_rows(7):
            for seats in (1, 2, 3, None):
                for times in (-2, -1, 0, 1, 3):
                    self.assertEqual(done(row, [(seats, times)]).stretches, one_by_one(row, [(seats, times)]))

    def test_many_deeds_one_by_one(self):
        for seed in range(40):
            row = scattered(seed, 1 + seed % 12, 6, 5)
            deeds = some_deeds(seed, 2 + seed % 9)
            self.assertEqual(done(row, deeds).stretches, one_by_one(row, deeds))

    def test_deeds_of_great_rows_one_by_one(self):
        for small, by, move, row in great_rows():
            deeds = [(by, 2), (1, -1), (None, -1), (2 * by + 1, 1), (by, 0)]
            told = gone(back(back(gone(gone(row, by), by), 1), None), 2 * by + 1)
            self.assertEqual(done(row, deeds).stretches, told.stretches)

    def test_60_deeds_and_some_more(self):
        row = scattered(5, 30, 5, 4)
        deeds = some_deeds(60, 60)
        told = row
        for seats, times in deeds:
            told = after(told, seats, times)
        self.assertEqual(done(row, deeds).stretches, told.stretches)
        self.assertEqual(done(row, deeds + [(2, 3)] * 10).stretches, after(told, 2, 30).stretches)
        great = [(seats, times * GREATEST) for seats, times in deeds]
        sums = {}
        for seats, times in great:
            sums[seats] = sums.get(seats, 0) + times
        self.assertEqual(done(row, great).stretches, done(row, list(sums.items())).stretches)

    def test_other_orders(self):
        for seed in range(20):
            row = scattered(seed, 1 + seed, 7, 4)
            deeds = some_deeds(seed, 9) + [(GREATEST, 2), (2, -FORTY), (None, FORTY)]
            told = done(row, deeds).stretches
            for turn in range(3):
                random.Random(turn).shuffle(deeds)
                self.assertEqual(done(row, deeds).stretches, told)

    def test_deeds_that_undo_one_another(self):
        row = scattered(8, 14, 7, 4)
        self.assertEqual(done(row, [(2, GREATEST), (None, 3), (2, -GREATEST), (None, -3)]).stretches, row.stretches)
        self.assertEqual(done(row, [(2, 0), (None, 0), (1, 0)]).stretches, row.stretches)

    def test_one_and_the_same_seats_told_several_times(self):
        row = scattered(9, 14, 7, 4)
        self.assertEqual(done(row, [(3, 2), (3, 5), (3, -1)]).stretches, one_by_one(row, [(3, 6)]))

    def test_the_row_without_a_ball(self):
        self.assertEqual(done(Row([]), []).stretches, ())
        self.assertEqual(done(Row([]), [(1, GREATEST), (None, -2), (7, 0)]).stretches, ())


class Seats(RefusalCase):
    def test_below_1(self):
        for seats in (0, -1, -GREATEST):
            for times in (0, 1, -1, GREATEST):
                for row in (Row([]), Row([(0, 1)]), Row([(-3, 2), (0, GREATEST)])):
                    self.refused(BadSeats, after, row, seats, times)
                    self.refused(BadSeats, shifted, table_of(row), seats, times)
                    self.refused(BadSeats, done, row, [(seats, times)])

    def test_whichever_of_the_deeds_has_them(self):
        for row in (Row([]), Row([(0, 3), (5, 1)])):
            for at in range(6):
                for wrong in ((0, 0), (0, 1), (-1, -4), (-GREATEST, GREATEST)):
                    deeds = [(1, 2), (None, -1), (3, 0), (2, 5), (1, 1)]
                    deeds.insert(at, wrong)
                    self.refused(BadSeats, done, row, deeds)

    def test_1_is_not_refused(self):
        self.assertEqual(after(Row([(0, 3)]), 1, 2).stretches, ((2, 3),))
        self.assertEqual(shifted([(3, 0, 1)], 1, 2), [(3, 2, 1)])
        self.assertEqual(done(Row([(0, 3)]), [(1, 2)]).stretches, ((2, 3),))


class NoTables(RefusalCase):
    WRONG = ([(2, 0, 1), (1, 0, 1)], [(1, 5, 1), (1, 4, 1)], [(1, 0, 1), (1, 0, 1)], [(1, 0, 2), (1, 0, 1)],
             [(0, 0, 1)], [(-GREATEST, 0, 1)], [(1, 0, 0)], [(1, 0, 1), (2, 0, -1)], [(1, 0, 31), (1, 0, 1)],
             [(0, 0, 31)])
    MANY = ([(1, 0, 31)], [(1, 0, GREATEST)], [(1, spot, 1) for spot in range(31)], [(1, 0, 15), (2, 0, 16)])

    def test_refused_as_row_of_does(self):
        for seats in (1, 4, None):
            for times in (0, 1, -GREATEST):
                for table in self.WRONG:
                    self.refused(BadTable, row_of, table)
                    self.refused(BadTable, shifted, table, seats, times)
                for table in self.MANY:
                    self.refused(TooMany, row_of, table)
                    self.refused(TooMany, shifted, table, seats, times)

    def test_bad_seats_go_first(self):
        for table in self.WRONG + self.MANY:
            for seats in (0, -3):
                self.refused(BadSeats, shifted, table, seats, 0)
                self.refused(BadSeats, shifted, table, seats, 2)


class HandedIn(RefusalCase):
    def test_rows_tables_and_deeds_stay(self):
        row = Row([(-3, 2), (0, 1)])
        table = table_of(row)
        kept = list(table)
        deeds = [(1, 2), (None, -5), (2, 0)]
        after(row, 2, 3)
        shifted(table, 2, 3)
        done(row, deeds)
        self.assertEqual(row.stretches, ((-3, 2), (0, 1)))
        self.assertEqual(table, kept)
        self.assertEqual(deeds, [(1, 2), (None, -5), (2, 0)])

    def test_a_told_table_is_not_the_handed_one(self):
        for table in ([], [(1, 3, 1), (3, 0, 1)]):
            kept = list(table)
            for times in (0, 2):
                shifted(table, 2, times).append((99, 0, 1))
                self.assertEqual(table, kept)

    def test_told_alike_again(self):
        for table in ([], [(1, 3, 1), (3, 0, 1)]):
            for times in (0, 4):
                self.told_alike_again(shifted, table, 2, times)

    def test_kinds(self):
        row = Row([(-3, 2), (0, 1)])
        for times in (0, 1, -1):
            self.assertIs(type(after(row, None, times)), Row)
            self.assertIs(type(done(row, [(1, times)])), Row)
            self.assertEqual({type(triple) for triple in shifted(table_of(row), 1, times)}, {tuple})
        self.assertIs(type(done(row, [])), Row)


if __name__ == "__main__":
    unittest.main()
