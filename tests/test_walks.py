"""Points 4.1 to 4.4: walks, tops, first cuts, and partners."""

import unittest

from lumprow.ferries import aboard, gone
from lumprow.rows import Row, ball_at, ball_count, moved
from lumprow.texts import pictured
from lumprow.walks import first_at, partner, top, walk

from helping import FORTY, GREATEST, RefusalCase, places_of, scaled, scattered, small_rows, spaced


def great_rows():
    for seed, count in enumerate((1, 2, 3, 8, 30)):
        for by in (FORTY, 10 ** 58 + 7):
            for move in (0, GREATEST, -GREATEST):
                yield moved(scaled(scattered(seed, count, 9, 9), by), move)


def ends_of(row):
    return [end for begin, length in row.stretches for end in (begin, begin + length)]


def walks_of(places, low, high):
    """The walk at each cut from low to high, box by box; no ball stands below low."""
    walks = {low: low}
    for place in range(low, high):
        walks[place + 1] = walks[place] + (-1 if place in places else 1)
    return walks


def partner_by_boxes(places, place):
    """The partner of a ball: the nearest place behind with as many free boxes as balls on the way."""
    more = 0
    while True:
        more += 1 if place in places else -1
        if more == 0:
            return place
        place += 1


class Walks(RefusalCase):
    def test_by_hand(self):
        row = Row([(-3, 2), (0, 1)])
        self.assertEqual([walk(row, cut) for cut in range(-5, 5)], [-5, -4, -3, -4, -5, -4, -5, -4, -3, -2])
        self.assertEqual([top(row, cut) for cut in range(-5, 5)], [-5, -4, -3, -3, -3, -3, -3, -3, -3, -2])

    def test_every_small_row_box_by_box(self):
        for places, row in small_rows(9):
            walks = walks_of(places, -4, 24)
            for cut, level in walks.items():
                self.assertEqual(walk(row, cut), level)
                self.assertEqual(top(row, cut), max(walks[c] for c in range(-4, cut + 1)))

    def test_rows_of_30_stretches_box_by_box(self):
        for seed in range(12):
            row = scattered(seed, 30, 1 + seed % 5, 1 + seed % 6)
            walks = walks_of(places_of(row), -60, 500)
            greatest = -60
            for cut, level in walks.items():
                greatest = max(greatest, level)
                self.assertEqual(walk(row, cut), level)
                self.assertEqual(top(row, cut), greatest)

    def test_the_row_without_a_ball(self):
        for cut in (0, 5, -5, GREATEST, -GREATEST):
            self.assertEqual(walk(Row([]), cut), cut)
            self.assertEqual(top(Row([]), cut), cut)
            self.assertEqual(first_at(Row([]), cut), cut)

    def test_far_left_and_far_right(self):
        row = Row([(0, FORTY), (FORTY + 1, 5)])
        self.assertEqual(walk(row, -GREATEST), -GREATEST)
        self.assertEqual(top(row, -GREATEST), -GREATEST)
        self.assertEqual(walk(row, GREATEST), GREATEST - 2 * FORTY - 10)
        self.assertEqual(top(row, GREATEST), GREATEST - 2 * FORTY - 10)

    def test_great_row_by_hand(self):
        # The walk is -G at -G, then G40 lower, and at 0 it is -2 * G40.
        row = Row([(-GREATEST, FORTY), (0, GREATEST)])
        for cut, level, greatest in (
                (-GREATEST - 1, -GREATEST - 1, -GREATEST - 1), (-GREATEST, -GREATEST, -GREATEST),
                (1 - GREATEST, -GREATEST - 1, -GREATEST), (FORTY - GREATEST, -GREATEST - FORTY, -GREATEST),
                (2 * FORTY - GREATEST, -GREATEST, -GREATEST), (2 * FORTY - GREATEST + 1, 1 - GREATEST, 1 - GREATEST),
                (-1, -1 - 2 * FORTY, -1 - 2 * FORTY), (0, -2 * FORTY, -2 * FORTY), (1, -1 - 2 * FORTY, -2 * FORTY),
                (GREATEST, -2 * FORTY - GREATEST, -2 * FORTY), (2 * GREATEST, -2 * FORTY, -2 * FORTY),
                (2 * GREATEST + 9, 9 - 2 * FORTY, 9 - 2 * FORTY)):
            self.assertEqual((walk(row, cut), top(row, cut)), (level, greatest), cut)

    def test_great_rows_ahead_of_within_at_the_ends_and_behind(self):
        for row in great_rows():
            ends = ends_of(row)
            for end in ends:
                for cut in (end - 1, end, end + 1, end + FORTY // 2):
                    step = -1 if ball_at(row, cut) else 1
                    self.assertEqual(walk(row, cut + 1), walk(row, cut) + step)
                    self.assertEqual(top(row, cut + 1), max(top(row, cut), walk(row, cut + 1)))
            self.assertEqual(walk(row, ends[0]), ends[0])
            self.assertEqual(top(row, ends[0]), ends[0])
            for begin, length in row.stretches:
                self.assertEqual(walk(row, begin + length), walk(row, begin) - length)
                self.assertEqual(top(row, begin + length), top(row, begin))
            self.assertEqual(walk(row, ends[-1]), ends[-1] - 2 * ball_count(row))


class FirstCuts(RefusalCase):
    def test_every_small_row_cut_by_cut(self):
        for places, row in small_rows(9):
            walks = walks_of(places, -30, 60)
            for level in range(-25, 30):
                self.assertEqual(first_at(row, level), min(cut for cut in walks if walks[cut] == level))

    def test_rows_of_30_stretches_cut_by_cut(self):
        for seed in range(12):
            row = scattered(seed, 30, 1 + seed % 5, 1 + seed % 6)
            walks = walks_of(places_of(row), -200, 800)
            first = {}
            for cut in sorted(walks, reverse=True):
                first[walks[cut]] = cut
            for level in range(-190, 300):
                self.assertEqual(first_at(row, level), first[level])

    def test_below_among_and_above(self):
        row = Row([(0, FORTY), (3 * FORTY, GREATEST)])
        for level, cut in ((-GREATEST, -GREATEST), (-1, -1), (0, 0), (1, 2 * FORTY + 1), (FORTY, 3 * FORTY),
                           (FORTY + 1, 3 * FORTY + 2 * GREATEST + 1), (GREATEST, 3 * GREATEST + 2 * FORTY)):
            self.assertEqual(first_at(row, level), cut, level)

    def test_great_rows_by_the_top(self):
        for row in great_rows():
            levels = [walk(row, end) + step for end in ends_of(row) for step in (-FORTY, -1, 0, 1, FORTY)]
            for level in levels + [GREATEST ** 2, -GREATEST ** 2]:
                cut = first_at(row, level)
                self.assertEqual(walk(row, cut), level)
                # The top is below the level just where no cut so far has it.
                self.assertEqual(top(row, cut), level)
                self.assertEqual(top(row, cut - 1), level - 1)


class GreatestFerry(RefusalCase):
    def test_every_small_row(self):
        for places, row in small_rows(9):
            left = gone(row, None)
            for cut in range(-4, 24):
                self.assertEqual(top(row, cut) - walk(row, cut), aboard(row, None, cut))
                self.assertEqual(2 * top(row, cut) - walk(row, cut), walk(left, cut))

    def test_great_rows(self):
        for row in great_rows():
            left = gone(row, None)
            for end in ends_of(row) + ends_of(left):
                for cut in (end - 1, end, end + 1, end + FORTY // 2):
                    self.assertEqual(top(row, cut) - walk(row, cut), aboard(row, None, cut))
                    self.assertEqual(2 * top(row, cut) - walk(row, cut), walk(left, cut))


class Partners(RefusalCase):
    def test_by_hand(self):
        row = pictured("..**.*...*..", 0)
        told = [partner(row, place) for place in range(12)]
        self.assertEqual(told, [None, None, 7, 4, 3, 6, 5, 2, None, 10, 9, None])

    def test_every_small_row_box_by_box(self):
        for places, row in small_rows(10):
            partners = {place: partner_by_boxes(places, place) for place in places}
            balls = {q: p for p, q in partners.items()}
            self.assertEqual(len(balls), len(places))
            for place in range(-3, 24):
                expected = partners[place] if place in places else balls.get(place)
                self.assertEqual(partner(row, place), expected)

    def test_rows_of_30_stretches_box_by_box(self):
        for seed in range(12):
            row = scattered(seed, 30, 1 + seed % 5, 1 + seed % 6)
            places = places_of(row)
            partners = {place: partner_by_boxes(places, place) for place in places}
            balls = {q: p for p, q in partners.items()}
            for place in range(-60, 500):
                expected = partners[place] if place in places else balls.get(place)
                self.assertEqual(partner(row, place), expected)

    def test_the_greatest_ferry_leaves_balls_at_just_the_partners(self):
        for places, row in small_rows(9):
            self.assertEqual({partner(row, place) for place in places}, places_of(gone(row, None)))

    def test_the_row_without_a_ball(self):
        for place in (0, GREATEST, -GREATEST):
            self.assertIsNone(partner(Row([]), place))

    def test_long_stretches_by_hand(self):
        row = Row([(0, GREATEST), (GREATEST + 5, FORTY)])
        behind = GREATEST + 5 + FORTY
        for place, other in ((GREATEST - 1, GREATEST), (GREATEST - 5, GREATEST + 4),
                             (GREATEST + 4 + FORTY, behind), (GREATEST + 5, behind + FORTY - 1),
                             (GREATEST - 6, behind + FORTY), (0, behind + FORTY + GREATEST - 6)):
            self.assertEqual(partner(row, place), other)
            self.assertEqual(partner(row, other), place)
        for place in (-1, -GREATEST, behind + FORTY + GREATEST - 5, 9 * GREATEST):
            self.assertIsNone(partner(row, place))

    def test_great_rows_there_and_back(self):
        for row in great_rows():
            left = gone(row, None)
            for end in ends_of(row) + ends_of(left):
                for place in (end - 1, end, end + FORTY // 3):
                    other = partner(row, place)
                    if ball_at(row, place):
                        self.assertGreater(other, place)
                        self.assertEqual(walk(row, other + 1), walk(row, place))
                        self.assertEqual(partner(row, other), place)
                    elif ball_at(left, place):
                        self.assertLess(other, place)
                        self.assertTrue(ball_at(row, other))
                        self.assertEqual(partner(row, other), place)
                    else:
                        self.assertIsNone(other)

    def test_neighbours(self):
        row = Row(spaced(30))
        for place in range(60):
            self.assertEqual(partner(row, place), place + 1 if place in range(0, 60, 2) else place - 1)
        self.assertIsNone(partner(row, 60))


class HandedIn(RefusalCase):
    def test_rows_stay(self):
        row = Row([(-3, 2), (0, 1)])
        for number in range(-6, 6):
            walk(row, number)
            top(row, number)
            first_at(row, number)
            partner(row, number)
        self.assertEqual(row.stretches, ((-3, 2), (0, 1)))


if __name__ == "__main__":
    unittest.main()
