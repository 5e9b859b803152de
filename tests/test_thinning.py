"""Points 5.1 to 5.4: thinning and thickening."""

import unittest

from lumprow.errors import TooMany
from lumprow.rows import Row, ball_at, ball_count, gaps_of, moved
from lumprow.texts import pictured
from lumprow.thinning import closes_at, put_in, struck, thickened, thinned

from helping import (
    FORTY, GREATEST, RefusalCase, line_of, owes, row_of_line, scaled, scattered, small_rows, spaced, strike)


def lines_of_30():
    """Rows of 30 stretches, of lengths and gaps from 1 on, beside their lines, which begin at -60."""
    for seed in range(16):
        row = scattered(seed, 30, 1 + seed % 5, 1 + seed % 4)
        yield row, line_of(row, -60, 500)


def put_by_letters(line, further):
    """One layer put in, letter by letter; further pairs are told by spots counted from the line's begin."""
    thick = ""
    for spot, letter in enumerate(line):
        thick += "*." * (owes(line, spot) + further.get(spot, 0)) + letter
    return thick


class Thinned(RefusalCase):
    def test_by_pictures(self):
        for before, layers, behind in (
                ("..**.*...*..", 1, "..*....."), ("..**.*...*..", 2, "......"), ("**.**...", 1, "**...."),
                ("**.**...", 2, "*..."), ("**.**...", 3, "..."), ("***..*..***..", 1, "**..**.."), ("*.*.*.", 1, ""),
                (".*.", 0, ".*."), ("..**.*...*..", 0, "..**.*...*.."), ("***.*.***...", 1, "****..."), ("", 4, "")):
            self.assertEqual(thinned(pictured(before, -3), layers).stretches, pictured(behind, -3).stretches, before)

    def test_every_small_row_letter_by_letter(self):
        for places, row in small_rows(11):
            line = line_of(row, -2, 13)
            for layers in range(7):
                self.assertEqual(thinned(row, layers).stretches, row_of_line(line, -2).stretches)
                line = strike(line + "..")[0]

    def test_rows_of_30_stretches_letter_by_letter(self):
        for row, line in lines_of_30():
            layers = 0
            while "*" in line:
                self.assertEqual(thinned(row, layers).stretches, row_of_line(line, -60).stretches)
                line = strike(line)[0]
                layers += 1
            self.assertEqual(thinned(row, layers).stretches, ())

    def test_more_than_anything_is_left_for(self):
        for places, row in small_rows(7):
            for layers in (8, 9, 100, GREATEST):
                self.assertEqual(thinned(row, layers).stretches, ())

    def test_the_row_without_a_ball(self):
        for layers in (0, 1, 2, GREATEST):
            self.assertEqual(thinned(Row([]), layers).stretches, ())

    def test_layers_of_60_figures(self):
        row = Row([(-GREATEST, GREATEST)])
        self.assertEqual(thinned(row, 1).stretches, ((-GREATEST, GREATEST - 1),))
        self.assertEqual(thinned(row, GREATEST - 1).stretches, ((-GREATEST, 1),))
        self.assertEqual(thinned(row, GREATEST).stretches, ())
        # The gap is closed by its 5th layer, and what is left is one stretch.
        two = Row([(0, GREATEST), (GREATEST + 5, GREATEST)])
        self.assertEqual(thinned(two, 4).stretches, ((0, GREATEST - 4), (GREATEST - 3, GREATEST - 4)))
        self.assertEqual(thinned(two, 5).stretches, ((0, 2 * GREATEST - 10),))
        self.assertEqual(thinned(two, GREATEST).stretches, ((0, GREATEST - 5),))
        self.assertEqual(thinned(two, 2 * GREATEST - 6).stretches, ((0, 1),))
        self.assertEqual(thinned(two, 2 * GREATEST - 5).stretches, ())

    def test_a_stretch_that_is_gone(self):
        row = Row([(0, GREATEST), (GREATEST + FORTY, 3), (GREATEST + 3 * FORTY, GREATEST)])
        self.assertEqual(thinned(row, 2).stretches,
                         ((0, GREATEST - 2), (GREATEST + FORTY - 4, 1), (GREATEST + 3 * FORTY - 8, GREATEST - 2)))
        self.assertEqual(thinned(row, 3).stretches, ((0, GREATEST - 3), (GREATEST + 3 * FORTY - 12, GREATEST - 3)))
        self.assertEqual(thinned(row, 4).stretches, ((0, GREATEST - 4), (GREATEST + 3 * FORTY - 14, GREATEST - 4)))

    def test_great_rows_as_small_ones(self):
        for seed, count in enumerate((1, 2, 3, 8, 30)):
            small = scattered(seed, count, 9, 6)
            line = line_of(small, -60, 600)
            for layers in range(60):
                for by in (FORTY, 10 ** 58 + 7):
                    row = moved(scaled(small, by), -GREATEST)
                    left = moved(scaled(row_of_line(line, -60), by), -GREATEST)
                    self.assertEqual(thinned(row, layers * by).stretches, left.stretches)
                line = strike(line)[0]

    def test_layers_one_behind_the_other(self):
        for seed in range(6):
            row = scaled(scattered(seed, 20, 9, 6), FORTY)
            for one, two in ((0, 1), (1, 1), (FORTY, 1), (FORTY - 1, 2 * FORTY + 2), (3 * FORTY, FORTY)):
                self.assertEqual(thinned(thinned(row, one), two).stretches, thinned(row, one + two).stretches)


class Closes(RefusalCase):
    def test_by_hand(self):
        for pairs, closes in (([(5, 1)], 1), ([(5, 7)], 7), ([(0, 3), (5, 4)], 2), ([(0, 3), (9, 4)], 3),
                              ([(0, 9), (90, 4)], 4), ([(0, GREATEST)], GREATEST), ([(0, 5), (6, 5)], 1),
                              ([(-GREATEST, FORTY), (0, GREATEST)], FORTY)):
            self.assertEqual(closes_at(Row(pairs)), closes)

    def test_none_for_a_row_without_balls(self):
        self.assertIsNone(closes_at(Row([])))

    def test_no_stretch_is_gone_and_none_are_joined_ahead_of_it(self):
        for seed in range(40):
            row = scaled(scattered(seed, 1 + seed % 30, 9, 9), 1 + seed % 3 * FORTY)
            closes = closes_at(row)
            left = thinned(row, closes - 1)
            lengths = [length for begin, length in row.stretches]
            self.assertEqual([length for begin, length in left.stretches], [x - closes + 1 for x in lengths])
            self.assertEqual(gaps_of(left), [x - closes + 1 for x in gaps_of(row)])
            self.assertLess(len(thinned(row, closes).stretches), len(row.stretches))


class Struck(RefusalCase):
    def test_by_hand(self):
        for line, told in (
                ("...", []), ("*.", [(0, 1, 0)]), ("**..", [(1, 1, 1)]), ("*.*.*.", [(0, 3, 0)]),
                ("**.*.*...", [(1, 3, 1)]), ("**.**...", [(1, 1, 0), (2, 1, 1)]), ("***.*.***...", [(2, 2, 0), (4, 1, 1)]),
                ("..**.*...*..", [(3, 2, 1), (5, 1, 0)])):
            self.assertEqual(struck(pictured(line, 0)), told, line)
            moved_on = [(spot - 7, pairs, owed) for spot, pairs, owed in told]
            self.assertEqual(struck(pictured(line, -7)), moved_on, line)

    def test_every_small_row_letter_by_letter(self):
        for places, row in small_rows(11):
            left, spots = strike(line_of(row, -2, 13) + "..")
            told = [(spot - 2, spots[spot], owes(left, spot)) for spot in sorted(spots)]
            self.assertEqual(struck(row), told)

    def test_rows_of_30_stretches_letter_by_letter(self):
        for row, line in lines_of_30():
            left, spots = strike(line)
            told = [(spot - 60, spots[spot], owes(left, spot)) for spot in sorted(spots)]
            self.assertEqual(struck(row), told)

    def test_great_rows(self):
        row = Row([(-GREATEST, GREATEST - 1), (0, 1), (2, 1), (4, FORTY), (FORTY + 6, 1)])
        self.assertEqual(struck(row), [(-2, 3, 0), (FORTY - 3, 1, 1), (FORTY - 2, 1, 0)])
        self.assertEqual(struck(Row([(-GREATEST, GREATEST)])), [(-1, 1, 1)])
        self.assertEqual(struck(Row([(GREATEST, 1)])), [(GREATEST, 1, 0)])
        self.assertEqual(struck(Row(spaced(30, GREATEST))), [(GREATEST, 30, 0)])

    def test_kinds(self):
        told = struck(Row([(0, 2), (3, 1)]))
        self.assertIs(type(told), list)
        self.assertEqual([type(part) for part in told], [tuple])
        self.assertEqual([type(number) for number in told[0]], [int, int, int])

    def test_as_many_pairs_as_stretches(self):
        for places, row in small_rows(9):
            self.assertEqual(sum(pairs for spot, pairs, owed in struck(row)), len(row.stretches))


class Thickened(RefusalCase):
    def test_by_hand(self):
        row = Row([(-3, 2), (0, 1), (9, 4)])
        self.assertEqual(thickened(row, 0).stretches, row.stretches)
        self.assertEqual(thickened(row, 1).stretches, ((-3, 3), (2, 2), (13, 5)))
        self.assertEqual(thickened(row, 10).stretches, ((-3, 12), (20, 11), (49, 14)))
        self.assertEqual(thickened(row, GREATEST).stretches,
                         ((-3, GREATEST + 2), (2 * GREATEST, GREATEST + 1), (4 * GREATEST + 9, GREATEST + 4)))

    def test_the_row_without_a_ball(self):
        for layers in (0, 1, GREATEST):
            self.assertEqual(thickened(Row([]), layers).stretches, ())

    def test_every_small_row_letter_by_letter(self):
        for places, row in small_rows(9):
            line = line_of(row, -2, 12)
            for layers in range(5):
                self.assertEqual(thickened(row, layers).stretches, row_of_line(line, -2).stretches)
                line = put_by_letters(line, {})

    def test_each_stretch_and_each_gap_is_longer_and_thinning_leads_back(self):
        for seed in range(20):
            row = scaled(scattered(seed, 1 + 3 * seed % 30, 7, 5), 1 + seed % 2 * FORTY)
            for layers in (0, 1, 2, 17, FORTY, GREATEST):
                thick = thickened(row, layers)
                self.assertEqual(gaps_of(thick), [gap + layers for gap in gaps_of(row)])
                self.assertEqual(ball_count(thick), ball_count(row) + layers * len(row.stretches))
                self.assertEqual(thick.stretches[0], (row.stretches[0][0], row.stretches[0][1] + layers))
                self.assertEqual(thinned(thick, layers).stretches, row.stretches)

    def test_30_stretches(self):
        self.assertEqual(thickened(Row(spaced(30)), 1).stretches, tuple((4 * k, 2) for k in range(30)))


class PutIn(RefusalCase):
    def test_by_pictures(self):
        for before, pairs, behind in (
                ("....", [(2, 1)], "..*..."), ("....", [(0, 3)], "*.*.*...."), ("***.", [(1, 1)], "**.***.."),
                ("***.", [(0, 1)], "*.****.."), ("***.", [(3, 1)], "****.*.."), ("***.", [(4, 1)], "****..*."),
                ("**..*.", [(1, 2), (4, 1)], "**.*.**...*.**.."), ("*..", [], "**...")):
            self.assertEqual(put_in(pictured(before, 0), pairs).stretches, pictured(behind, 0).stretches, before)

    def test_every_small_row_and_spot_letter_by_letter(self):
        for places, row in small_rows(7):
            line = line_of(row, -3, 11)
            for spot in range(-2, 10):
                for number in (1, 2, 5):
                    told = put_in(row, [(spot, number)])
                    thick = put_by_letters(line, {spot + 3: number})
                    self.assertEqual(told.stretches, row_of_line(thick, -3).stretches)
                    self.assertEqual(thinned(told, 1).stretches, row.stretches)

    def test_several_spots_letter_by_letter(self):
        for places, row in small_rows(7):
            line = line_of(row, -3, 11)
            for pairs in ([(-2, 1), (9, 1)], [(0, 1), (1, 2), (2, 3)], [(3, 4), (5, 1), (6, 2)],
                          [(spot, 1) for spot in range(-2, 10)]):
                told = put_in(row, pairs)
                thick = put_by_letters(line, {spot + 3: number for spot, number in pairs})
                self.assertEqual(told.stretches, row_of_line(thick, -3).stretches)
                self.assertEqual(thinned(told, 1).stretches, row.stretches)

    def test_nothing_further_is_thickening(self):
        for places, row in small_rows(8):
            self.assertEqual(put_in(row, []).stretches, thickened(row, 1).stretches)

    def test_far_spots_and_long_stretches(self):
        row = Row([(-GREATEST, FORTY), (0, GREATEST)])
        self.assertEqual(
            put_in(row, [(-2 * GREATEST, 1), (5 - GREATEST, 2), (FORTY, 1), (3 * GREATEST, 1)]).stretches,
            ((-2 * GREATEST, 1), (2 - GREATEST, 6), (9 - GREATEST, 1), (11 - GREATEST, FORTY - 4), (8, FORTY + 1),
             (10 + FORTY, GREATEST - FORTY + 1), (3 * GREATEST + 12, 1)))

    def test_great_rows_thinned_back(self):
        for seed in range(20):
            row = scaled(scattered(seed, 1 + seed, 7, 5), FORTY)
            spots = sorted({end + step for begin, length in row.stretches[::3] for end in (begin, begin + length)
                            for step in (-GREATEST, -1, 0, 1, FORTY // 2)})
            for number in (1, 2):
                pairs = [(spot, number) for spot in spots[seed % 4::8][:(30 - len(row.stretches)) // number]]
                thick = put_in(row, pairs)
                self.assertEqual(len(thick.stretches), len(row.stretches) + number * len(pairs))
                self.assertEqual(thinned(thick, 1).stretches, row.stretches)
                self.assertEqual(
                    struck(thick),
                    sorted((spot, self.pairs_at(row, pairs, spot), self.owed_at(row, spot))
                           for spot in {spot for spot, more in pairs} | {sum(pair) for pair in row.stretches}))

    def owed_at(self, row, spot):
        return 1 if ball_at(row, spot - 1) and not ball_at(row, spot) else 0

    def pairs_at(self, row, pairs, spot):
        return self.owed_at(row, spot) + dict(pairs).get(spot, 0)

    def test_30_and_31_stretches(self):
        self.assertEqual(put_in(Row([]), [(4, 30)]).stretches, tuple(spaced(30, 4)))
        self.assertEqual(len(put_in(Row(spaced(29)), [(0, 1)]).stretches), 30)
        self.assertEqual(len(put_in(Row(spaced(30)), []).stretches), 30)
        self.assertEqual(len(put_in(Row(spaced(10)), [(k, 2) for k in range(10)]).stretches), 30)
        self.refused(TooMany, put_in, Row(spaced(30)), [(0, 1)])
        self.refused(TooMany, put_in, Row(spaced(30)), [(1, 1)])
        self.refused(TooMany, put_in, Row(spaced(30)), [(-GREATEST, 30)])
        self.refused(TooMany, put_in, Row(spaced(29)), [(0, 1), (900, 1)])
        self.refused(TooMany, put_in, Row([(0, 1)]), [(0, 30)])
        self.refused(TooMany, put_in, Row([(0, GREATEST)]), [(k, 1) for k in range(30)])
        self.refused(TooMany, put_in, Row([]), [(0, 31)])
        self.refused(TooMany, put_in, Row([]), [(0, GREATEST)])


class HandedIn(RefusalCase):
    def test_rows_and_pairs_stay(self):
        row = Row([(-3, 2), (0, 1)])
        pairs = [(-9, 2), (-2, 1), (4, 1)]
        thick = put_in(row, pairs)
        first = thick.stretches
        thinned(row, 1)
        thickened(row, 2)
        struck(row)
        closes_at(row)
        self.assertEqual(row.stretches, ((-3, 2), (0, 1)))
        self.assertEqual(pairs, [(-9, 2), (-2, 1), (4, 1)])
        pairs.clear()
        self.assertEqual(thick.stretches, first)

    def test_pairs_stay_where_they_are_refused(self):
        pairs = [(0, 20), (1, 20)]
        self.refused(TooMany, put_in, Row([]), pairs)
        self.assertEqual(pairs, [(0, 20), (1, 20)])

    def test_rows_are_told(self):
        for row in (Row([]), Row([(0, 2)])):
            for told in (thinned(row, 0), thinned(row, 1), thickened(row, 0), thickened(row, 1), put_in(row, [])):
                self.assertIs(type(told), Row)
                self.assertIs(type(told.stretches), tuple)

    def test_told_alike_again(self):
        self.told_alike_again(struck, Row([(0, 2), (3, 1), (9, 4)]))
        self.told_alike_again(struck, Row([]))


if __name__ == "__main__":
    unittest.main()
