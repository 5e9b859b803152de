"""Points 12.1 and 12.2: tables as texts."""

import unittest

from lumprow.errors import BadTable, BadText, TooMany
from lumprow.reports import table_text, table_told
from lumprow.tables import row_of, table_of

from helping import GREATEST, RefusalCase, great_rows, scattered, small_rows, tables

LONGEST = 10 ** 200 - 1
RIGHT = "lump 1 at 3 times 2\n"
# None of these is a row of a table's text, each for another reason.
NO_ROWS = (
    # Words left out, more of them, others, or in another order.
    "", "lump", "lump 1", "lump 1 at", "lump 1 at 3", "lump 1 at 3 times", "1 at 3 times 2", "lump at 3 times 2",
    "lump 1 3 times 2", "lump 1 at times 2", "lump 1 at 3 2", "1 3 2", "lump 1 at 3 times 2 2",
    "lump 1 at 3 times 2 lump", "lump lump 1 at 3 times 2", "lump 1 1 at 3 times 2",
    "lump 1 at 3 times 2 lump 2 at 3 times 2", "at 1 lump 3 times 2", "lump 1 times 3 at 2", "lumps 1 at 3 times 2",
    "lum 1 at 3 times 2", "Lump 1 at 3 times 2", "LUMP 1 AT 3 TIMES 2", "lump 1 at 3 time 2", "lump 1 on 3 times 2",
    "lump 1 At 3 times 2", "row 1 at 3 times 2", "row", "row 0+1", "lump x at 3 times 2", "lump 1 at x times 2",
    "lump 1 at 3 times x", "lump all at 3 times 2", "lump 1 at 3 times None",
    # Blanks.
    " ", " lump 1 at 3 times 2", "lump 1 at 3 times 2 ", "lump  1 at 3 times 2", "lump 1  at 3 times 2",
    "lump 1 at  3 times 2", "lump 1 at 3  times 2", "lump 1 at 3 times  2", "lump1 at 3 times 2", "lump 1at 3 times 2",
    "lump 1 at3 times 2", "lump 1 at 3times 2", "lump 1 at 3 times2", "lump 1 at - 3 times 2", "lump 1 at 3,times 2",
    # Numbers written otherwise.
    "lump 01 at 3 times 2", "lump 1 at 03 times 2", "lump 1 at 3 times 02", "lump +1 at 3 times 2",
    "lump 1 at +3 times 2", "lump 1 at 3 times +2", "lump 1 at -0 times 2", "lump -0 at 3 times 2",
    "lump 1 at 3 times -0", "lump 1 at 00 times 2", "lump 1 at --3 times 2", "lump 1 at 3- times 2",
    "lump 1_0 at 3 times 2", "lump 1 at 3.0 times 2", "lump 1 at 3 times 2,", "lump 1e1 at 3 times 2",
    "lump 1 at - times 2", "lump 1 at 3 times 2.", "lump 1 at 0x3 times 2")
NO_TABLES = (
    [(1, 3, 1), (1, 2, 1)], [(2, 0, 1), (1, 0, 1)], [(1, 0, 1), (3, 0, 1), (2, 0, 1)], [(1, 3, 1), (1, 3, 1)],
    [(1, 3, 1), (1, 3, 2)], [(1, 3, 2), (1, 3, 1)], [(0, 3, 1)], [(-1, 3, 1)], [(-GREATEST, 3, 1)], [(1, 3, 0)],
    [(1, 3, -1)], [(1, 3, -GREATEST)], [(1, 0, 1), (2, 0, 0)], [(0, 0, 1), (1, 0, 1)], [(0, 0, 0)],
    [(1, 0, 31), (1, 0, 1)], [(2, 0, 31), (1, 0, 1)], [(0, 0, 31)], [(1, 0, 40), (2, 0, -20)])


def text_of(table):
    return "".join("lump %d at %d times %d\n" % triple for triple in table)


class Texts(RefusalCase):
    def test_by_hand(self):
        self.assertEqual(table_text([(1, 3, 2)]), RIGHT)
        self.assertEqual(table_text([(1, -3, 2), (1, 0, 1), (12, -45, 6)]),
                         "lump 1 at -3 times 2\nlump 1 at 0 times 1\nlump 12 at -45 times 6\n")
        self.assertEqual(table_told("lump 1 at -3 times 2\nlump 1 at 0 times 1\nlump 12 at -45 times 6\n"),
                         [(1, -3, 2), (1, 0, 1), (12, -45, 6)])

    def test_the_table_without_a_lump(self):
        self.assertEqual(table_text([]), "")
        self.assertEqual(table_told(""), [])

    def test_there_and_back(self):
        for table in list(tables(6, 9, 60)) + list(tables(GREATEST, GREATEST, 40)):
            text = table_text(table)
            self.assertEqual(text, text_of(table))
            self.assertEqual(table_told(text), table)
            self.assertEqual(table_text(table_told(text)), text)

    def test_the_tables_of_rows(self):
        rows = [row for places, row in small_rows(8)] + [scattered(seed, seed, 7, 5) for seed in range(31)]
        for row in rows + [row for small, by, move, row in great_rows()]:
            self.assertEqual(row_of(table_told(table_text(table_of(row)))).stretches, row.stretches)

    def test_200_figures(self):
        for table in ([(LONGEST, LONGEST, 30)], [(LONGEST, -LONGEST, 1)],
                      [(1, 10 ** 199, 1), (10 ** 199, -10 ** 199, 2)]):
            self.assertEqual(table_text(table), text_of(table))
            self.assertEqual(table_told(text_of(table)), table)

    def test_201_figures(self):
        for number in (10 ** 200, LONGEST + 7, 10 ** 300):
            for wrong in ((number, 3, 1), (1, number, 1), (1, 3, number), (-number, 3, 1), (1, -number, 1),
                          (1, 3, -number)):
                self.refused_at(BadText, 1, table_told, text_of([wrong]))
                self.refused_at(BadText, 2, table_told, RIGHT + text_of([wrong]))

    def test_30_and_31_lumps(self):
        for table in ([(1, 3, 30)], [(k, -k, 1) for k in range(1, 31)], [(1, k, 1) for k in range(30)],
                      [(2, 0, 29), (5, 5, 1)]):
            self.assertEqual(table_told(text_of(table)), table)
            self.refused(TooMany, table_told, text_of(table + [(31, 0, 1)]))
        self.refused(TooMany, table_told, text_of([(1, 3, 31)]))
        self.refused(TooMany, table_told, text_of([(1, 3, GREATEST)]))
        self.refused(TooMany, table_told, text_of([(1, 3, LONGEST)]))


class Refused(RefusalCase):
    def test_rows_that_are_none(self):
        for wrong in NO_ROWS:
            with self.subTest(wrong=wrong):
                self.refused_at(BadText, 1, table_told, wrong + "\n")
                self.refused_at(BadText, 1, table_told, wrong + "\n" + RIGHT)
                self.refused_at(BadText, 2, table_told, RIGHT + wrong + "\n")
                self.refused_at(BadText, 3, table_told, RIGHT + "lump 2 at -7 times 1\n" + wrong + "\n" + RIGHT)

    def test_the_first_of_several(self):
        for one in NO_ROWS[::5]:
            for two in NO_ROWS[::7]:
                self.refused_at(BadText, 1, table_told, one + "\n" + two + "\n")
                self.refused_at(BadText, 2, table_told, RIGHT + one + "\n" + RIGHT + two + "\n")
                self.refused_at(BadText, 2, table_told, RIGHT + one + "\n" + two)

    def test_an_empty_row(self):
        self.refused_at(BadText, 1, table_told, "\n")
        self.refused_at(BadText, 1, table_told, "\n\n")
        self.refused_at(BadText, 1, table_told, "\n" + RIGHT)
        self.refused_at(BadText, 2, table_told, RIGHT + "\n")
        self.refused_at(BadText, 2, table_told, RIGHT + "\n" + "lump 2 at 3 times 1\n")

    def test_a_last_row_that_is_not_ended(self):
        table = [(k, 0, 1) for k in range(1, 12)]
        text = text_of(table)
        self.refused_at(BadText, 11, table_told, text[:-1])
        self.refused_at(BadText, 1, table_told, RIGHT[:-1])
        for end in range(len(text)):
            told = text[:end]
            rows = told.count("\n")
            if told == "" or told[-1] == "\n":
                self.assertEqual(table_told(told), table[:rows])
            else:
                self.refused_at(BadText, rows + 1, table_told, told)
        self.refused_at(BadText, 2, table_told, RIGHT + " ")
        self.refused_at(BadText, 1, table_told, "x\n" + RIGHT[:-1])

    def test_triples_that_are_no_table(self):
        for table in NO_TABLES:
            self.refused(BadTable, table_told, text_of(table))

    def test_a_wrong_row_goes_ahead_of_bad_table_and_of_too_many(self):
        for table in NO_TABLES + ([(1, 3, 31)], [(k, 0, 1) for k in range(1, 41)]):
            for wrong in ("x\n", "\n", "lump 9 at 9 times 9", " "):
                self.refused_at(BadText, len(table) + 1, table_told, text_of(table) + wrong)
            self.refused_at(BadText, 1, table_told, "x\n" + text_of(table))
            self.refused_at(BadText, len(table), table_told, text_of(table)[:-1])

    def test_bad_table_goes_ahead_of_too_many(self):
        self.refused(BadTable, table_told, text_of([(k, 0, 1) for k in range(1, 41)] + [(40, 0, 1)]))
        self.refused(BadTable, table_told, text_of([(1, 3, 31), (2, 0, 0)]))
        self.refused(BadTable, table_told, text_of([(1, 3, 31), (0, 9, 1)]))

    def test_texts_of_5000_signs(self):
        self.refused_at(BadText, 1, table_told, " " * 5000)
        self.refused_at(BadText, 1, table_told, "\n" * 5000)
        self.refused_at(BadText, 1, table_told, "lump " + "1" * 4980 + " at 3 times 1\n")
        # 240 rows of 20 signs each.
        self.refused(BadTable, table_told, RIGHT * 240)
        self.refused_at(BadText, 241, table_told, RIGHT * 240 + "\n")
        self.refused(TooMany, table_told, text_of([(1, k, 1) for k in range(100, 300)]))


class HandedIn(RefusalCase):
    def test_tables_stay(self):
        table = [(1, -3, 2), (12, -45, 6)]
        table_text(table)
        self.assertEqual(table, [(1, -3, 2), (12, -45, 6)])

    def test_told_alike_again(self):
        self.told_alike_again(table_told, "lump 1 at -3 times 2\nlump 12 at -45 times 6\n")
        self.told_alike_again(table_told, "")

    def test_kinds(self):
        told = table_told("lump 1 at -3 times 2\nlump 12 at -45 times 6\n")
        self.assertEqual({type(triple) for triple in told}, {tuple})
        self.assertEqual({type(number) for triple in told for number in triple}, {int})
        self.assertIs(type(table_text([])), str)


if __name__ == "__main__":
    unittest.main()
