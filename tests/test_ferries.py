"""Points 0.6 and 3.1 to 3.3, and of 8.2 the order of two ferries: one ferry, on and back."""

import unittest

from lumprow.errors import BadSeats
from lumprow.ferries import aboard, back, gone, taken
from lumprow.rows import Row, alike, ball_at, ball_count, mirrored, moved
from lumprow.texts import picture, pictured

from helping import (
    FORTY, GREATEST, RefusalCase, ferried, ferried_back, great_rows, pairs_of, places_of, scaled, scattered,
    seats_to_try, small_rows, spaced)


class Going(RefusalCase):
    def test_by_pictures(self):
        for seats, before, behind in (
                (1, "*.........", ".*........"), (1, "***.......", ".***......"), (2, "***.......", "..***....."),
                (3, "***.......", "...***...."), (None, "***.......", "...***...."), (2, "***..*....", "..***.*..."),
                (1, "**.*..*...", ".**.*..*.."), (2, "**.*..*...", "..*.**.*.."), (None, "**.*..*...", "..*.**.*.."),
                (2, "****.**...", "..***.***."), (3, "*.*.*.....", ".*.*.*....")):
            self.assertEqual(picture(gone(pictured(before, 0), seats), 0, 10), behind, (seats, before))

    def test_every_small_row_from_box_to_box(self):
        for places, row in small_rows(10):
            for seats in seats_to_try(row):
                self.assertEqual(gone(row, seats).stretches, pairs_of(ferried(places, seats)[0]))

    def test_rows_of_30_stretches_from_box_to_box(self):
        for seed in range(40):
            row = scattered(seed, 30, 1 + seed % 6, 1 + seed % 5)
            for seats in seats_to_try(row):
                self.assertEqual(gone(row, seats).stretches, pairs_of(ferried(places_of(row), seats)[0]))

    def test_as_many_stretches(self):
        for places, row in small_rows(9):
            for seats in (1, 2, 3, None):
                self.assertEqual(len(gone(row, seats).stretches), len(row.stretches))
        self.assertEqual(gone(Row(spaced(30)), 1).stretches, tuple(spaced(30, 1)))
        self.assertEqual(gone(Row(spaced(30)), None).stretches, tuple(spaced(30, 1)))

    def test_the_row_without_a_ball(self):
        for seats in (1, 2, GREATEST, None):
            self.assertEqual(gone(Row([]), seats).stretches, ())
            self.assertEqual(back(Row([]), seats).stretches, ())
            self.assertEqual(taken(Row([]), seats), 0)
            for place in (0, GREATEST, -GREATEST):
                self.assertEqual(aboard(Row([]), seats, place), 0)

    def test_long_stretches_and_gaps(self):
        row = Row([(-GREATEST, FORTY), (0, GREATEST)])
        self.assertEqual(gone(row, 1).stretches, ((1 - GREATEST, FORTY), (1, GREATEST)))
        self.assertEqual(gone(row, FORTY - 1).stretches, ((FORTY - 1 - GREATEST, FORTY), (FORTY - 1, GREATEST)))
        self.assertEqual(gone(row, GREATEST).stretches, ((FORTY - GREATEST, FORTY), (GREATEST, GREATEST)))
        self.assertEqual(gone(row, None).stretches, ((FORTY - GREATEST, FORTY), (GREATEST, GREATEST)))
        near = Row([(0, GREATEST), (GREATEST + 5, 3)])
        self.assertEqual(gone(near, GREATEST).stretches, ((GREATEST, 5), (GREATEST + 8, GREATEST - 2)))
        self.assertEqual(gone(near, 4).stretches, ((4, GREATEST), (GREATEST + 8, 3)))
        self.assertEqual(gone(near, 6).stretches, ((6, GREATEST - 1), (GREATEST + 8, 4)))

    def test_great_rows_as_small_ones(self):
        for small, by, move, row in great_rows():
            for seats in seats_to_try(small):
                told = gone(row, None if seats is None else seats * by)
                left = pairs_of(ferried(places_of(small), seats)[0])
                self.assertEqual(told.stretches, moved(scaled(Row(left), by), move).stretches)

    def test_great_rows_box_by_box_where_something_begins_or_ends(self):
        for small, by, move, row in great_rows():
            for seats in (1, 2, by - 1, 3 * by + 1, GREATEST, None):
                self.each_box_by_the_rule(row, seats)

    def each_box_by_the_rule(self, row, seats):
        left = gone(row, seats)
        ends = [end for begin, length in row.stretches + left.stretches for end in (begin, begin + length)]
        for place in sorted({end + step for end in ends for step in (-2, -1, 0, 1)}):
            load = aboard(row, seats, place)
            ball = ball_at(row, place)
            takes = ball and (seats is None or load < seats)
            sets = not ball and load > 0
            self.assertEqual(ball_at(left, place), ball and not takes or sets)
            self.assertEqual(aboard(row, seats, place + 1), load + takes - sets)

    def test_numbers_greater_than_60_figures(self):
        row = Row([(-GREATEST, 5), (7, GREATEST)])
        for goings in range(1, 9):
            row = gone(row, None)
            self.assertEqual(row.stretches, ((5 * goings - GREATEST, 5), (7 + goings * GREATEST, GREATEST)))
        self.assertEqual(gone(Row([(0, 10 ** 300)]), 10 ** 299).stretches, ((10 ** 299, 10 ** 300),))
        self.assertEqual(gone(Row([(0, 10 ** 300)]), None).stretches, ((10 ** 300, 10 ** 300),))


class Back(RefusalCase):
    def test_by_pictures(self):
        for seats, before, behind in (
                (1, ".*........", "*........."), (2, "..***.*...", "***..*...."), (None, "..*.**.*..", "**.*..*..."),
                (2, "...***....", ".***......"), (1, "...*.*....", "..*.*.....")):
            self.assertEqual(picture(back(pictured(before, 0), seats), 0, 10), behind, (seats, before))

    def test_every_small_row_from_box_to_box(self):
        for places, row in small_rows(10):
            for seats in seats_to_try(row):
                self.assertEqual(back(row, seats).stretches, pairs_of(ferried_back(places, seats)))

    def test_rows_of_30_stretches_from_box_to_box(self):
        for seed in range(40):
            row = scattered(seed, 30, 1 + seed % 6, 1 + seed % 5)
            for seats in seats_to_try(row):
                self.assertEqual(back(row, seats).stretches, pairs_of(ferried_back(places_of(row), seats)))

    def test_the_mirror_of_a_going(self):
        for small, by, move, row in great_rows():
            for seats in (1, by, 3 * by + 1, None):
                self.assertTrue(alike(back(row, seats), mirrored(gone(mirrored(row), seats))))

    def test_gone_and_then_back_and_back_and_then_gone(self):
        for places, row in small_rows(9):
            for seats in seats_to_try(row):
                self.assertEqual(back(gone(row, seats), seats).stretches, row.stretches)
                self.assertEqual(gone(back(row, seats), seats).stretches, row.stretches)

    def test_gone_and_back_of_great_rows(self):
        for small, by, move, row in great_rows():
            for seats in (1, 2, by - 1, by, 3 * by + 1, GREATEST, None):
                self.assertEqual(back(gone(row, seats), seats).stretches, row.stretches)
                self.assertEqual(gone(back(row, seats), seats).stretches, row.stretches)


class Order(RefusalCase):
    def test_two_ferries_in_either_order(self):
        for places, row in small_rows(9):
            for one, two in ((1, 2), (1, 3), (2, 3), (2, 5), (1, None), (2, None), (3, None)):
                self.assertEqual(gone(gone(row, one), two).stretches, gone(gone(row, two), one).stretches)

    def test_one_on_and_one_back(self):
        for places, row in small_rows(8):
            for one, two in ((1, 2), (2, 1), (3, 2), (1, None), (None, 2)):
                self.assertEqual(back(gone(row, one), two).stretches, gone(back(row, two), one).stretches)

    def test_great_rows(self):
        for small, by, move, row in great_rows():
            for one, two in ((1, by), (2 * by + 1, 3 * by - 1), (by, None), (7, None), (GREATEST, 5)):
                self.assertEqual(gone(gone(row, one), two).stretches, gone(gone(row, two), one).stretches)


class Counted(RefusalCase):
    def test_every_small_row_from_box_to_box(self):
        for places, row in small_rows(9):
            for seats in seats_to_try(row):
                left, count, loads = ferried(places, seats)
                self.assertEqual(taken(row, seats), count)
                for place, load in loads.items():
                    self.assertEqual(aboard(row, seats, place), load)

    def test_rows_of_30_stretches_from_box_to_box(self):
        for seed in range(20):
            row = scattered(seed, 30, 1 + seed % 6, 1 + seed % 5)
            for seats in seats_to_try(row):
                left, count, loads = ferried(places_of(row), seats)
                self.assertEqual(taken(row, seats), count)
                self.assertEqual([aboard(row, seats, place) for place in loads], list(loads.values()))

    def test_from_ahead_of_the_first_ball_to_behind_the_last_one(self):
        row = pictured("****.**...", 0)
        self.assertEqual([aboard(row, 2, place) for place in range(-2, 12)], [0, 0, 0, 1, 2, 2, 2, 1, 2, 2, 1, 0, 0, 0])
        self.assertEqual([aboard(row, None, place) for place in range(-1, 14)],
                         [0, 0, 1, 2, 3, 4, 3, 4, 5, 4, 3, 2, 1, 0, 0])
        self.assertEqual((taken(row, 1), taken(row, 2), taken(row, 5), taken(row, None)), (2, 3, 6, 6))

    def test_far_left_and_far_right(self):
        row = Row([(-5, 4), (0, 2)])
        for seats in (1, 2, None):
            for place in (-GREATEST, -6, -5, 30, GREATEST):
                self.assertEqual(aboard(row, seats, place), 0)

    def test_great_rows_as_small_ones(self):
        for small, by, move, row in great_rows():
            for seats in seats_to_try(small):
                left, count, loads = ferried(places_of(small), seats)
                more = None if seats is None else seats * by
                self.assertEqual(taken(row, more), count * by)
                for place in list(loads)[::7]:
                    self.assertEqual(aboard(row, more, place * by + move), loads[place] * by)

    def test_within_long_stretches_and_gaps(self):
        row = Row([(-GREATEST, FORTY), (0, GREATEST)])
        for seats, most in ((FORTY + 1, FORTY), (FORTY, FORTY), (FORTY - 1, FORTY - 1), (3, 3), (None, FORTY)):
            self.assertEqual(aboard(row, seats, 2 - GREATEST), 2)
            self.assertEqual(aboard(row, seats, FORTY - GREATEST), most)
            self.assertEqual(aboard(row, seats, FORTY - GREATEST + 1), most - 1)
            self.assertEqual(aboard(row, seats, FORTY - GREATEST + most), 0)
            self.assertEqual(aboard(row, seats, -1), 0)
        self.assertEqual(aboard(row, None, GREATEST), GREATEST)
        self.assertEqual(aboard(row, None, 2 * GREATEST - 1), 1)
        self.assertEqual(aboard(row, None, 2 * GREATEST), 0)
        self.assertEqual(taken(row, None), FORTY + GREATEST)
        self.assertEqual(taken(row, FORTY + 1), 2 * FORTY + 1)

    def test_never_more_than_seats_and_all_by_the_greatest_ferry(self):
        for seed in range(10):
            row = scattered(seed, 20, 6, 4)
            self.assertEqual(taken(row, None), ball_count(row))
            for seats in (1, 2, 3, 5):
                for place in range(-60, 400):
                    self.assertLessEqual(aboard(row, seats, place), seats)


class Seats(RefusalCase):
    def test_below_1_is_refused_by_all_four(self):
        for row in (Row([]), Row([(0, 1)]), Row([(-3, 2), (0, 1)]), Row([(0, GREATEST)])):
            for seats in (0, -1, -2, -GREATEST):
                self.refused(BadSeats, gone, row, seats)
                self.refused(BadSeats, back, row, seats)
                self.refused(BadSeats, taken, row, seats)
                self.refused(BadSeats, aboard, row, seats, 0)
                self.refused(BadSeats, aboard, row, seats, -GREATEST)

    def test_1_is_not_refused(self):
        for row in (Row([]), Row([(0, 1)])):
            balls = ball_count(row)
            self.assertEqual(gone(row, 1).stretches, moved(row, 1).stretches)
            self.assertEqual(back(row, 1).stretches, moved(row, -1).stretches)
            self.assertEqual(taken(row, 1), balls)
            self.assertEqual(aboard(row, 1, 1), balls)


class HandedIn(RefusalCase):
    def test_rows_stay_and_rows_are_told(self):
        row = Row([(-3, 2), (0, 1)])
        for seats in (1, 2, None):
            self.assertIs(type(gone(row, seats)), Row)
            self.assertIs(type(back(row, seats)), Row)
            taken(row, seats)
            aboard(row, seats, 0)
            self.assertEqual(row.stretches, ((-3, 2), (0, 1)))

    def test_told_alike_again(self):
        row = scattered(3, 12, 5, 4)
        first = gone(row, 2).stretches
        back(row, 2)
        gone(row, None)
        self.assertEqual(gone(row, 2).stretches, first)
        self.assertIs(type(first), tuple)
        self.assertEqual({type(pair) for pair in first}, {tuple})


if __name__ == "__main__":
    unittest.main()
