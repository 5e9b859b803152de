"""Points 0.2 to 0.5 and 1.1 to 1.3: rows, and what is told of them."""

import unittest

from lumprow.errors import BadRow, TooMany
from lumprow.rows import (
    Row, alike, ball_at, ball_count, balls_in, gaps_of, mirrored, moved, row_of_balls)

from helping import GREATEST, RefusalCase, small_rows, spaced


class Making(RefusalCase):
    def test_rows_of_no_stretch_of_one_of_several(self):
        self.assertEqual(Row([]).stretches, ())
        self.assertEqual(Row(()).stretches, ())
        self.assertEqual(Row([(5, 1)]).stretches, ((5, 1),))
        self.assertEqual(Row([(-3, 2), (0, 1)]).stretches, ((-3, 2), (0, 1)))

    def test_stretches_are_a_tuple_of_tuples(self):
        for told in ([(-3, 2), (0, 1)], ((-3, 2), (0, 1))):
            stretches = Row(told).stretches
            self.assertIs(type(stretches), tuple)
            self.assertEqual([type(pair) for pair in stretches], [tuple, tuple])

    def test_no_method_but_the_making(self):
        own = {name for name, value in vars(Row).items() if callable(value)}
        self.assertEqual(own, {"__init__"})

    def test_30_and_31_stretches(self):
        self.assertEqual(Row(spaced(30)).stretches, tuple(spaced(30)))
        self.refused(TooMany, Row, spaced(31))
        self.refused(TooMany, Row, tuple(spaced(31)))
        self.refused(TooMany, Row, spaced(500))

    def test_lengths_of_1_of_0_and_below(self):
        self.assertEqual(Row([(0, 1)]).stretches, ((0, 1),))
        for length in (0, -1, -2, -GREATEST):
            self.refused(BadRow, Row, [(0, length)])
            self.refused(BadRow, Row, [(0, length), (5, 1)])
            self.refused(BadRow, Row, [(-9, 1), (0, length)])
            self.refused(BadRow, Row, spaced(29) + [(100, length)])

    def test_where_the_next_stretch_begins(self):
        # The stretch ahead has the places 10, 11 and 12; 13 is right behind it.
        self.assertEqual(Row([(10, 3), (14, 1)]).stretches, ((10, 3), (14, 1)))
        for begin in (13, 12, 11, 10, 9, 8, 0, -14, -GREATEST):
            for length in (1, 2, 40):
                self.refused(BadRow, Row, [(10, 3), (begin, length)])
                self.refused(BadRow, Row, [(0, 1), (10, 3), (begin, length), (900, 1)])

    def test_the_last_stretch_of_30_is_looked_at(self):
        self.refused(BadRow, Row, spaced(29) + [(57, 1)])
        self.assertEqual(len(Row(spaced(29) + [(58, 1)]).stretches), 30)

    def test_places_ahead_of_nought(self):
        self.assertEqual(Row([(-10, 3), (-6, 6), (1, 1)]).stretches, ((-10, 3), (-6, 6), (1, 1)))
        self.refused(BadRow, Row, [(-10, 3), (-7, 1)])
        self.refused(BadRow, Row, [(-10, 10), (0, 1)])

    def test_too_many_goes_ahead_of_bad_row(self):
        self.refused(TooMany, Row, spaced(30) + [(1000, 0)])
        self.refused(TooMany, Row, [(0, 0)] + spaced(30, 1))
        self.refused(TooMany, Row, spaced(31)[::-1])
        self.refused(BadRow, Row, spaced(30)[::-1])

    def test_numbers_of_60_figures(self):
        stretches = ((-GREATEST, GREATEST - 1), (0, GREATEST - 1), (GREATEST, GREATEST))
        self.assertEqual(Row(stretches).stretches, stretches)
        self.refused(BadRow, Row, [(-GREATEST, GREATEST), (0, 1)])
        self.refused(BadRow, Row, [(0, GREATEST), (GREATEST, 1)])

    def test_greater_numbers_that_were_told(self):
        told = Row([(0, GREATEST), (GREATEST + 1, GREATEST)])
        for step in range(40):
            told = moved(told, GREATEST if step < 20 else -GREATEST)
            self.assertEqual(Row(told.stretches).stretches, told.stretches)
            self.assertEqual(told.stretches[0][0], GREATEST * min(step + 1, 39 - step))
        huge = 10 ** 5000
        self.assertEqual(Row([(-huge, huge - 1), (0, huge)]).stretches, ((-huge, huge - 1), (0, huge)))
        self.refused(BadRow, Row, [(-huge, huge), (0, huge)])


class HandedIn(RefusalCase):
    def test_a_list_of_pairs_stays_and_is_not_kept(self):
        told = [(-3, 2), (0, 1)]
        row = Row(told)
        self.assertEqual(told, [(-3, 2), (0, 1)])
        told[0] = (-9, 1)
        told.append((5, 5))
        self.assertEqual(row.stretches, ((-3, 2), (0, 1)))
        told.clear()
        self.assertEqual(row.stretches, ((-3, 2), (0, 1)))
        self.assertEqual(ball_count(row), 3)

    def test_a_tuple_of_pairs_stays(self):
        told = ((-3, 2), (0, 1))
        Row(told)
        self.assertEqual(told, ((-3, 2), (0, 1)))

    def test_a_list_stays_where_it_is_refused(self):
        told = [(4, 1), (4, 1), (0, 0)]
        self.refused(BadRow, Row, told)
        self.assertEqual(told, [(4, 1), (4, 1), (0, 0)])

    def test_a_list_of_places_stays_and_is_not_kept(self):
        told = [7, 3, 7, 4]
        row = row_of_balls(told)
        self.assertEqual(told, [7, 3, 7, 4])
        told.append(9)
        self.assertEqual(row.stretches, ((3, 2), (7, 1)))

    def test_gaps_are_the_askers_own(self):
        self.told_alike_again(gaps_of, Row([(0, 1), (3, 2), (9, 1)]))
        self.told_alike_again(gaps_of, Row([]))

    def test_a_row_never_changes(self):
        row = Row([(-3, 2), (0, 1)])
        other = moved(row, 4)
        mirrored(row)
        gaps_of(row).append(1)
        balls_in(row, -9, 9)
        alike(row, other)
        self.assertEqual(row.stretches, ((-3, 2), (0, 1)))
        self.assertEqual(other.stretches, ((1, 2), (4, 1)))


class OfBalls(RefusalCase):
    def test_no_place_and_one(self):
        self.assertEqual(row_of_balls([]).stretches, ())
        for place in (0, 5, -5, GREATEST, -GREATEST):
            self.assertEqual(row_of_balls([place]).stretches, ((place, 1),))

    def test_any_order_and_told_twice(self):
        self.assertEqual(row_of_balls([3, -1, 2, 0, 9, 2, 9, 9]).stretches, ((-1, 2), (2, 2), (9, 1)))
        self.assertEqual(row_of_balls([1, 1]).stretches, ((1, 1),))
        self.assertEqual(row_of_balls([2, 1, 0]).stretches, ((0, 3),))

    def test_far_apart_and_far_from_nought(self):
        places = [GREATEST, -GREATEST, 0, GREATEST - 1, 1 - GREATEST, GREATEST - 3]
        self.assertEqual(
            row_of_balls(places).stretches,
            ((-GREATEST, 2), (0, 1), (GREATEST - 3, 1), (GREATEST - 1, 2)))

    def test_neighbours_across_nought(self):
        self.assertEqual(row_of_balls([1, -1, 0, -2]).stretches, ((-2, 4),))

    def test_400_and_401_numbers(self):
        self.assertEqual(row_of_balls(list(range(400))).stretches, ((0, 400),))
        self.assertEqual(row_of_balls([7] * 400).stretches, ((7, 1),))
        self.refused(TooMany, row_of_balls, list(range(401)))
        self.refused(TooMany, row_of_balls, [7] * 401)
        self.refused(TooMany, row_of_balls, list(range(400)) + [0])

    def test_30_and_31_stretches(self):
        self.assertEqual(row_of_balls(list(range(0, 60, 2))).stretches, tuple(spaced(30)))
        self.refused(TooMany, row_of_balls, list(range(0, 62, 2)))
        self.assertEqual(row_of_balls(list(range(0, 62, 2)) + [1]).stretches[0], (0, 3))

    def test_every_small_row(self):
        for places, row in small_rows(9):
            self.assertEqual(row_of_balls(sorted(places, reverse=True)).stretches, row.stretches)


class Balls(RefusalCase):
    def test_every_small_row(self):
        for places, row in small_rows(8):
            self.assertEqual(ball_count(row), len(places))
            for place in range(-2, 10):
                self.assertIs(ball_at(row, place), place in places)

    def test_every_window_of_small_rows(self):
        for places, row in small_rows(6):
            for low in range(-2, 9):
                for high in range(-2, 9):
                    balls = len([p for p in places if low <= p < high])
                    self.assertEqual(balls_in(row, low, high), balls)

    def test_ends_of_each_stretch(self):
        row = Row([(-GREATEST, 1), (-10, 3), (0, GREATEST), (GREATEST + 2, GREATEST)])
        for begin, length in row.stretches:
            self.assertIs(ball_at(row, begin - 1), False)
            self.assertIs(ball_at(row, begin), True)
            self.assertIs(ball_at(row, begin + length - 1), True)
            self.assertIs(ball_at(row, begin + length), False)

    def test_windows_at_the_ends_of_long_stretches(self):
        row = Row([(-GREATEST, GREATEST - 1), (0, GREATEST)])
        self.assertEqual(balls_in(row, -GREATEST - 5, -GREATEST), 0)
        self.assertEqual(balls_in(row, -GREATEST - 5, -GREATEST + 1), 1)
        self.assertEqual(balls_in(row, -GREATEST, -1), GREATEST - 1)
        self.assertEqual(balls_in(row, -2, 0), 1)
        self.assertEqual(balls_in(row, -1, 0), 0)
        self.assertEqual(balls_in(row, -1, 1), 1)
        self.assertEqual(balls_in(row, -2, 1), 2)
        self.assertEqual(balls_in(row, GREATEST - 1, GREATEST), 1)
        self.assertEqual(balls_in(row, GREATEST - 1, GREATEST + 9), 1)
        self.assertEqual(balls_in(row, GREATEST, GREATEST + 9), 0)
        self.assertEqual(balls_in(row, -2 * GREATEST, 2 * GREATEST), 2 * GREATEST - 1)
        self.assertEqual(ball_count(row), 2 * GREATEST - 1)

    def test_high_no_more_than_low(self):
        row = Row([(-10, 8), (0, GREATEST)])
        for low, high in ((5, 5), (5, 4), (GREATEST, -GREATEST), (-5, -5), (0, -1), (-1, -2), (90, -90)):
            self.assertEqual(balls_in(row, low, high), 0)

    def test_the_row_without_a_ball(self):
        self.assertEqual(ball_count(Row([])), 0)
        self.assertIs(ball_at(Row([]), 0), False)
        self.assertEqual(balls_in(Row([]), -GREATEST, GREATEST), 0)


class Gaps(RefusalCase):
    def test_no_stretch_one_and_several(self):
        self.assertEqual(gaps_of(Row([])), [])
        self.assertEqual(gaps_of(Row([(4, 9)])), [])
        self.assertEqual(gaps_of(Row([(4, 9), (14, 1)])), [1])
        self.assertEqual(gaps_of(Row([(-3, 2), (0, 1), (8, 4), (20, 5)])), [1, 7, 8])
        self.assertEqual(gaps_of(Row(spaced(30, 0, 4))), [3] * 29)

    def test_long_gaps(self):
        self.assertEqual(gaps_of(Row([(-GREATEST, 2), (GREATEST, 1)])), [2 * GREATEST - 2])


class MovedAndMirrored(RefusalCase):
    def test_moved(self):
        row = Row([(-3, 2), (0, 1)])
        for by in (0, 1, -1, 7, -7, GREATEST, -GREATEST):
            self.assertEqual(moved(row, by).stretches, ((by - 3, 2), (by, 1)))
            self.assertEqual(moved(moved(row, by), -by).stretches, row.stretches)
        self.assertEqual(moved(Row([]), 5).stretches, ())

    def test_moved_tells_a_row(self):
        self.assertIsInstance(moved(Row([(1, 1)]), 0), Row)
        self.assertIsInstance(mirrored(Row([(1, 1)])), Row)

    def test_mirrored(self):
        self.assertEqual(mirrored(Row([])).stretches, ())
        self.assertEqual(mirrored(Row([(0, 1)])).stretches, ((0, 1),))
        self.assertEqual(mirrored(Row([(-3, 2), (0, 1)])).stretches, ((0, 1), (2, 2)))
        self.assertEqual(mirrored(Row([(-GREATEST, 1), (5, 4)])).stretches, ((-8, 4), (GREATEST, 1)))
        self.assertEqual(mirrored(Row([(0, GREATEST)])).stretches, ((1 - GREATEST, GREATEST),))

    def test_every_small_row_ball_by_ball(self):
        for places, row in small_rows(8):
            far = moved(row, -3)
            other = mirrored(row)
            for place in range(-12, 13):
                self.assertIs(ball_at(far, place), place + 3 in places)
                self.assertIs(ball_at(other, place), -place in places)
            self.assertEqual(mirrored(other).stretches, row.stretches)

    def test_30_stretches(self):
        row = Row(spaced(30))
        self.assertEqual(moved(row, 1).stretches, tuple(spaced(30, 1)))
        self.assertEqual(mirrored(row).stretches, tuple(spaced(30, -58)))


class Alike(RefusalCase):
    def test_alike(self):
        self.assertIs(alike(Row([]), Row(())), True)
        self.assertIs(alike(Row([(1, 2), (5, 1)]), row_of_balls([5, 2, 1])), True)
        row = Row([(1, GREATEST)])
        self.assertIs(alike(row, row), True)
        self.assertIs(alike(row, moved(moved(row, 5), -5)), True)

    def test_not_alike_by_one_ball_or_one_gap(self):
        row = Row([(1, 2), (5, 1)])
        others = ([], [(1, 2)], [(5, 1)], [(1, 1), (5, 1)], [(1, 2), (5, 2)], [(1, 3), (5, 1)],
                  [(1, 2), (6, 1)], [(0, 2), (5, 1)], [(0, 2), (4, 1)], [(1, 2), (5, 1), (7, 1)], [(1, 5)])
        for other in others:
            self.assertIs(alike(row, Row(other)), False)
            self.assertIs(alike(Row(other), row), False)

    def test_as_many_balls_and_gaps_elsewhere(self):
        self.assertIs(alike(Row([(0, 1), (2, 2)]), Row([(0, 2), (3, 1)])), False)
        self.assertIs(alike(Row([(0, GREATEST)]), Row([(0, GREATEST - 1)])), False)

    def test_small_rows_by_their_places(self):
        told = list(small_rows(5))
        for places, row in told:
            for other_places, other in told:
                self.assertIs(alike(row, other), places == other_places)


if __name__ == "__main__":
    unittest.main()
