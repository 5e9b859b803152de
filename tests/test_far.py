"""Points 9.1 to 9.5: far ahead and far behind."""

import unittest

from lumprow.far import delays, earlies, early, early_lines, far_lines, settled, settles
from lumprow.ferries import back, gone
from lumprow.jumps import after
from lumprow.rows import Row, mirrored, moved
from lumprow.tables import lumps_of, row_of, table_of
from lumprow.texts import pictured

from helping import (
    FORTY, GREATEST, RefusalCase, ferried_so_often, great_rows, pairs_of, scaled, scattered, small_rows, spaced, tables)


def settled_by_the_rule(stretches):
    for left, right in zip(stretches, stretches[1:]):
        gap = right[0] - left[0] - left[1]
        if right[1] < left[1] or gap < left[1]:
            return False
    return True


def early_by_the_rule(stretches):
    for left, right in zip(stretches, stretches[1:]):
        gap = right[0] - left[0] - left[1]
        if right[1] > left[1] or gap < right[1]:
            return False
    return True


def at(lines, times):
    """The stretches that lines tell behind so many goings."""
    return tuple((begin + size * times, size) for size, begin in lines)


def some_rows():
    """Rows of all numbers of stretches, small and great ones, the one without a ball among them."""
    for seed in range(31):
        yield scattered(seed, seed, 1 + seed % 7, 1 + seed % 5)
    for small, by, move, row in great_rows():
        yield row
    for most_size, widest in ((3, 4), (9, 40), (4, GREATEST), (GREATEST, 9), (GREATEST, GREATEST)):
        for table in tables(most_size, widest, 12):
            yield row_of(table)


def unlike_rows():
    """Those of some_rows that have lumps of unlike sizes."""
    return [row for row in some_rows() if len(lumps_of(row)) > 1]


class Settled(RefusalCase):
    def test_at_the_edges(self):
        for line, told in (
                ("", True), ("***", True), ("*.*", True), ("**..**", True), ("**.**", False), ("***...***", True),
                ("***..***", False), ("*.**", True), ("**..***", True), ("**.***", False), ("**....*", False),
                ("*.**..***...****", True), ("*.**..***..****", False), ("*.**.***...****", False),
                ("*.**..*", False), ("**......*.**", False), ("*.*.*..**", True)):
            self.assertIs(settled(pictured(line, -4)), told, line)

    def test_every_small_row_by_the_rule(self):
        for places, row in small_rows(11):
            self.assertIs(settled(row), settled_by_the_rule(row.stretches))

    def test_great_rows_at_the_edges(self):
        self.assertIs(settled(Row([(-GREATEST, FORTY), (2 * FORTY - GREATEST, FORTY)])), True)
        self.assertIs(settled(Row([(-GREATEST, FORTY), (2 * FORTY - GREATEST - 1, FORTY)])), False)
        self.assertIs(settled(Row([(-GREATEST, FORTY), (GREATEST, FORTY - 1)])), False)
        self.assertIs(settled(Row([(0, GREATEST), (2 * GREATEST, GREATEST + 1)])), True)
        self.assertIs(settled(Row([(0, GREATEST), (2 * GREATEST - 1, GREATEST + 1)])), False)

    def test_30_stretches(self):
        self.assertIs(settled(Row(spaced(30))), True)
        self.assertIs(settled(Row(spaced(29) + [(58, 2)])), True)
        self.assertIs(settled(Row([(-1, 2)] + spaced(29, 2))), False)

    def test_a_going_moves_each_stretch_by_its_length(self):
        for row in unlike_rows():
            there = after(row, None, settles(row))
            for times in range(3):
                on = gone(there, None)
                self.assertEqual(on.stretches, tuple((begin + length, length) for begin, length in there.stretches))
                self.assertIs(settled(on), True)
                there = on


class Early(RefusalCase):
    def test_at_the_edges(self):
        for line, told in (
                ("", True), ("***", True), ("*.*", True), ("**..**", True), ("**.**", False), ("***..***", False),
                ("**.*", True), ("***..**", True), ("***.**", False), ("***.*", True), ("*....**", False),
                ("****...***..**.*", True), ("****..***..**.*", False), ("****...***.**.*", False), ("**.*..**", False),
                ("**.*.*.*", True), ("***...***.*", True)):
            self.assertIs(early(pictured(line, -4)), told, line)

    def test_every_small_row_by_the_rule(self):
        for places, row in small_rows(11):
            self.assertIs(early(row), early_by_the_rule(row.stretches))

    def test_great_rows_at_the_edges(self):
        self.assertIs(early(Row([(0, GREATEST), (GREATEST + FORTY, FORTY)])), True)
        self.assertIs(early(Row([(0, GREATEST), (GREATEST + FORTY - 1, FORTY)])), False)
        self.assertIs(early(Row([(0, GREATEST), (10 ** 61, GREATEST + 1)])), False)
        self.assertIs(early(Row([(0, GREATEST), (2 * GREATEST, GREATEST)])), True)
        self.assertIs(early(Row([(0, GREATEST), (2 * GREATEST - 1, GREATEST)])), False)

    def test_the_mirror_of_settled(self):
        for row in some_rows():
            self.assertIs(early(row), settled(mirrored(row)))

    def test_a_going_back_moves_each_stretch_by_its_length(self):
        for row in unlike_rows():
            there = after(row, None, earlies(row))
            for times in range(3):
                further = back(there, None)
                self.assertEqual(further.stretches,
                                 tuple((begin - length, length) for begin, length in there.stretches))
                self.assertIs(early(further), True)
                there = further


class FromWhenOn(RefusalCase):
    def test_by_hand(self):
        for line, from_on, up_to in (
                ("*.**", 0, -1), ("**.*", 1, 0), ("***..*", 2, 0), ("*..**", -1, -2), ("**.**", 1, -1),
                ("*.*.***", 0, -1), ("*.**..*", 2, -1)):
            row = pictured(line, 5)
            self.assertEqual((line, settles(row), earlies(row)), (line, from_on, up_to))

    def test_every_small_row_one_by_one(self):
        for places, row in small_rows(8):
            least = settles(row)
            greatest = earlies(row)
            for sign in (1, -1):
                left = places
                for times in range(0, 12 * sign, sign):
                    stretches = pairs_of(left)
                    self.assertEqual(settled_by_the_rule(stretches), least is None or times >= least)
                    self.assertEqual(early_by_the_rule(stretches), greatest is None or times <= greatest)
                    left = ferried_so_often(left, None, sign)

    def test_on_both_sides_of_the_told_number(self):
        for row in unlike_rows():
            least = settles(row)
            self.assertEqual([settled(after(row, None, least + step)) for step in (-1, 0, 1)], [False, True, True])
            greatest = earlies(row)
            self.assertEqual([early(after(row, None, greatest + step)) for step in (-1, 0, 1)], [True, True, False])
            for far in (2, 3, 10, FORTY, GREATEST):
                self.assertIs(settled(after(row, None, least + far)), True)
                self.assertIs(settled(after(row, None, least - far)), False)
                self.assertIs(early(after(row, None, greatest - far)), True)
                self.assertIs(early(after(row, None, greatest + far)), False)

    def test_great_numbers_by_hand(self):
        for far in (10 ** 12, FORTY, GREATEST):
            self.assertEqual(settles(Row([(0, 2), (far, 1)])), far - 2)
            self.assertEqual(earlies(Row([(0, 2), (far, 1)])), far - 3)
            self.assertEqual(settles(Row([(0, 1), (far, 2)])), 2 - far)
            self.assertEqual(earlies(Row([(0, 1), (far, 2)])), 1 - far)

    def test_rounded_to_the_right_side(self):
        for far in range(6, 40):
            # The gap between the two grows or shrinks by 3 in a going.
            self.assertEqual(settles(Row([(0, 4), (far, 1)])), -((2 - far) // 3))
            self.assertEqual(earlies(Row([(0, 4), (far, 1)])), (far - 5) // 3)
            self.assertEqual(settles(Row([(0, 1), (far, 4)])), -((far - 2) // 3))
            self.assertEqual(earlies(Row([(0, 1), (far, 4)])), (-far - 1) // 3)

    def test_so_many_goings_farther(self):
        for row in unlike_rows():
            for times in (1, -4, GREATEST, -FORTY):
                there = after(row, None, times)
                self.assertEqual(settles(there), settles(row) - times)
                self.assertEqual(earlies(there), earlies(row) - times)
                self.assertEqual(settles(moved(row, times)), settles(row))
                self.assertEqual(earlies(moved(row, times)), earlies(row))

    def test_the_mirror(self):
        for row in unlike_rows():
            self.assertEqual(earlies(row), -settles(mirrored(row)))

    def test_lumps_of_one_size(self):
        for row in (Row([]), Row([(5, 1)]), Row([(0, GREATEST)]), Row(spaced(30)), Row([(0, 2), (4, 2), (GREATEST, 2)]),
                    Row([(0, FORTY), (2 * FORTY, FORTY)]), row_of([(7, -GREATEST, 3), (7, 0, 2), (7, 1, 25)])):
            self.assertIsNone(settles(row))
            self.assertIsNone(earlies(row))
            for times in (0, 1, -1, 17, GREATEST, -GREATEST):
                self.assertIs(settled(after(row, None, times)), True)
                self.assertIs(early(after(row, None, times)), True)


class FarLines(RefusalCase):
    def test_by_hand(self):
        self.assertEqual(far_lines(pictured("***..*", 0)), [(1, 3), (3, 2)])
        self.assertEqual(far_lines(pictured("..**.*...*..", 0)), [(1, 3), (1, 7), (2, 6)])
        self.assertEqual(far_lines(Row([(-9, GREATEST)])), [(GREATEST, -9)])
        self.assertEqual(far_lines(Row([(0, 2), (GREATEST, 1)])), [(1, GREATEST - 2), (2, 2)])

    def test_like_sizes_at_the_same_and_at_other_spots(self):
        row = row_of([(1, 5, 2), (3, -8, 1), (3, 0, 3), (4, -2, 1)])
        self.assertEqual(far_lines(row), [(1, 5), (1, 7), (3, -4), (3, 10), (3, 16), (3, 22), (4, 26)])
        self.assertEqual(far_lines(Row(spaced(30, 4))), [(1, 4 + 2 * k) for k in range(30)])

    def test_every_small_row_one_by_one(self):
        for places, row in small_rows(8):
            left = ferried_so_often(places, None, 12)
            for times in (12, 13, 14):
                self.assertEqual(at(far_lines(row), times), pairs_of(left))
                left = ferried_so_often(left, None, 1)

    def test_from_where_the_row_is_settled_on_and_farther(self):
        for row in unlike_rows():
            lines = far_lines(row)
            for farther in (0, 1, 2, FORTY, GREATEST):
                times = settles(row) + farther
                self.assertEqual(at(lines, times), after(row, None, times).stretches)
            self.assertNotEqual(at(lines, settles(row) - 1), after(row, None, settles(row) - 1).stretches)

    def test_a_settled_row_is_its_lines(self):
        for line in ("***", "*.**", "*.**..***...****", "*.*...**..**", "*.*.*"):
            row = pictured(line, -3)
            self.assertEqual(at(far_lines(row), 0), row.stretches)

    def test_lumps_of_one_size_at_any_time(self):
        row = row_of([(7, -GREATEST, 3), (7, 0, 2), (7, 1, 25)])
        for times in (0, 1, -5, GREATEST, -GREATEST):
            self.assertEqual(at(far_lines(row), times), after(row, None, times).stretches)

    def test_the_empty_row(self):
        self.assertEqual(far_lines(Row([])), [])


class EarlyLines(RefusalCase):
    def test_by_hand(self):
        self.assertEqual(early_lines(pictured("***..*", 0)), [(3, 0), (1, 5)])
        self.assertEqual(early_lines(pictured("..**.*...*..", 0)), [(2, 2), (1, 5), (1, 9)])
        self.assertEqual(early_lines(Row([(-9, GREATEST)])), [(GREATEST, -9)])
        self.assertEqual(early_lines(Row([(0, 1), (GREATEST, 2)])), [(2, GREATEST - 2), (1, 2)])

    def test_like_sizes_at_the_same_and_at_other_spots(self):
        row = row_of([(1, 5, 2), (3, -8, 1), (3, 0, 3), (4, -2, 1)])
        self.assertEqual(early_lines(row), [(4, -2), (3, -2), (3, 12), (3, 18), (3, 24), (1, 15), (1, 17)])
        self.assertEqual(early_lines(Row(spaced(30, 4))), [(1, 4 + 2 * k) for k in range(30)])

    def test_every_small_row_one_by_one(self):
        for places, row in small_rows(8):
            left = ferried_so_often(places, None, -12)
            for times in (-12, -13, -14):
                self.assertEqual(at(early_lines(row), times), pairs_of(left))
                left = ferried_so_often(left, None, -1)

    def test_as_long_as_the_row_is_early(self):
        for row in unlike_rows():
            lines = early_lines(row)
            for farther in (0, 1, 2, FORTY, GREATEST):
                times = earlies(row) - farther
                self.assertEqual(at(lines, times), after(row, None, times).stretches)
            self.assertNotEqual(at(lines, earlies(row) + 1), after(row, None, earlies(row) + 1).stretches)

    def test_an_early_row_is_its_lines(self):
        for line in ("***", "**.*", "****...***..**.*", "**..**...*.*", "*.*.*"):
            row = pictured(line, -3)
            self.assertEqual(at(early_lines(row), 0), row.stretches)

    def test_lumps_of_one_size_at_any_time(self):
        row = row_of([(7, -GREATEST, 3), (7, 0, 2), (7, 1, 25)])
        for times in (0, 1, -5, GREATEST, -GREATEST):
            self.assertEqual(at(early_lines(row), times), after(row, None, times).stretches)

    def test_the_empty_row(self):
        self.assertEqual(early_lines(Row([])), [])


class Delays(RefusalCase):
    def test_by_hand(self):
        self.assertEqual(delays(pictured("***..*", 0)), [(1, -2), (3, 2)])
        self.assertEqual(delays(pictured("..**.*...*..", 0)), [(1, -2), (1, -2), (2, 4)])
        self.assertEqual(delays(row_of([(1, 5, 2), (3, -8, 1), (3, 0, 3), (4, -2, 1)])),
                         [(1, -10), (1, -10), (3, -2), (3, -2), (3, -2), (3, -2), (4, 28)])
        self.assertEqual(delays(row_of([(5, 0, 1), (FORTY, 3, 1), (GREATEST, -1, 1)])),
                         [(5, -20), (FORTY, 10 - 2 * FORTY), (GREATEST, 2 * FORTY + 10)])
        self.assertEqual(delays(Row(spaced(30))), [(1, 0)] * 30)

    def test_the_difference_of_both_lines(self):
        for row in some_rows():
            spots = [(size, spot) for size, spot, number in table_of(row) for lump in range(number)]
            backwards = sorted(spots, key=lambda lump: (-lump[0], lump[1]))
            # Lumps at one spot are told apart by which of them stands farther left.
            far = sorted((lump, line[1]) for lump, line in zip(spots, far_lines(row)))
            soon = sorted((lump, line[1]) for lump, line in zip(backwards, early_lines(row)))
            told = [(one[0][0], one[1] - two[1]) for one, two in zip(far, soon)]
            self.assertEqual(delays(row), told)

    def test_every_small_row_one_by_one(self):
        for places, row in small_rows(8):
            ahead = pairs_of(ferried_so_often(places, None, 12))
            behind = pairs_of(ferried_so_often(places, None, -12))
            far = sorted((size, begin - 12 * size) for begin, size in ahead)
            soon = sorted((size, begin + 12 * size) for begin, size in behind)
            self.assertEqual(delays(row), [(one[0], one[1] - two[1]) for one, two in zip(far, soon)])

    def test_kept_by_goings_and_by_moving(self):
        for row in some_rows():
            told = delays(row)
            for seats, times in ((None, 3), (1, -2), (2, GREATEST), (FORTY, -GREATEST)):
                self.assertEqual(delays(after(row, seats, times)), told)
                self.assertEqual(delays(moved(row, times)), told)

    def test_wherever_the_lumps_stand(self):
        for table in tables(9, 9, 30):
            other = sorted((size, -7 * spot, number) for size, spot, number in table)
            self.assertEqual(delays(row_of(table)), delays(row_of(other)))

    def test_one_for_each_lump(self):
        for row in some_rows():
            told = delays(row)
            self.assertEqual(len(told), len(row.stretches))
            self.assertEqual(told, sorted(told))
            self.assertEqual(sum(delay for size, delay in told), 0)

    def test_the_empty_row(self):
        self.assertEqual(delays(Row([])), [])


class HandedIn(RefusalCase):
    def test_rows_stay(self):
        row = Row([(-3, 2), (0, 1)])
        for call in (settled, early, settles, earlies, far_lines, early_lines, delays):
            call(row)
            self.assertEqual(row.stretches, ((-3, 2), (0, 1)))

    def test_told_alike_again(self):
        for row in (Row([]), Row([(-3, 2), (0, 1), (9, 4)]), Row(spaced(4))):
            for call in (far_lines, early_lines, delays):
                self.told_alike_again(call, row)

    def test_kinds(self):
        row = Row([(-3, 2), (0, 1)])
        for call in (far_lines, early_lines, delays):
            self.assertEqual([type(pair) for pair in call(row)], [tuple, tuple])

    def test_great_rows_as_small_ones(self):
        for small, by, move, row in great_rows():
            for call in (far_lines, early_lines):
                told = [(size * by, begin * by + move) for size, begin in call(small)]
                self.assertEqual(call(row), told)
            self.assertEqual(delays(row), [(size * by, delay * by) for size, delay in delays(small)])
            self.assertIs(settled(scaled(small, by)), settled(small))
            self.assertEqual(settles(row), settles(small))
            self.assertEqual(earlies(row), earlies(small))


if __name__ == "__main__":
    unittest.main()
