"""Points 2.1 to 2.4: numbers and rows as texts, and rows as pictures."""

import unittest

from lumprow.errors import BadRow, BadText, TooMany
from lumprow.rows import Row, ball_at
from lumprow.texts import number_text, number_told, picture, pictured, read, written

from helping import GREATEST, RefusalCase, small_rows, spaced

LONGEST = 10 ** 200 - 1
SIGNS = [chr(code) for code in range(32, 127) if chr(code) != "%"] + ["\n"]


def line(pairs):
    return "row" + "".join(" %d+%d" % pair for pair in pairs) + "\n"


class Numbers(RefusalCase):
    def test_written_and_told(self):
        for number, text in ((0, "0"), (7, "7"), (-7, "-7"), (10, "10"), (-10, "-10"), (905, "905")):
            self.assertEqual(number_text(number), text)
            self.assertEqual(number_told(text), number)

    def test_what_is_written_is_told(self):
        for number in list(range(-1100, 1101)) + [GREATEST, -GREATEST, LONGEST, -LONGEST]:
            self.assertEqual(number_told(number_text(number)), number)

    def test_200_and_201_figures(self):
        self.assertEqual(number_text(LONGEST), "9" * 200)
        self.assertEqual(number_text(-LONGEST), "-" + "9" * 200)
        self.assertEqual(number_told("9" * 200), LONGEST)
        self.assertEqual(number_told("-" + "9" * 200), -LONGEST)
        self.assertEqual(number_told("1" + "0" * 199), 10 ** 199)
        for text in ("9" * 201, "-" + "9" * 201, "1" + "0" * 200, "-1" + "0" * 200, "1" * 5000, "0" * 5000):
            self.assertIsNone(number_told(text))

    def test_texts_that_write_no_number(self):
        wrong = ("", "-", "--", "--1", "-0", "00", "01", "-01", "-00", "000", "+1", "+0", "+", "-+1", "+-1",
                 "1+", "1-", "1-1", "1.0", "1,0", "1e3", "0x1", "0b1", "x", "None", "True", "1n", "\n", "1\n", "\n1")
        for text in wrong:
            self.assertIsNone(number_told(text), repr(text))

    def test_a_blank_or_underscore_anywhere(self):
        for sign in " _":
            for at in range(5):
                self.assertIsNone(number_told("-123"[:at] + sign + "-123"[at:]))
            self.assertIsNone(number_told(sign))

    def test_every_sign_by_itself_and_beside_figures(self):
        for sign in SIGNS:
            if sign.isdigit():
                self.assertEqual(number_told(sign), int(sign))
                continue
            self.assertIsNone(number_told(sign))
            self.assertIsNone(number_told("4" + sign))
            self.assertIsNone(number_told("4" + sign + "2"))
            self.assertEqual(number_told(sign + "4"), -4 if sign == "-" else None)


class Written(RefusalCase):
    def test_rows(self):
        self.assertEqual(written(Row([])), "row\n")
        self.assertEqual(written(Row([(-3, 2), (0, 1)])), "row -3+2 0+1\n")
        self.assertEqual(written(Row([(7, 12)])), "row 7+12\n")
        self.assertEqual(written(Row(spaced(30))), line(spaced(30)))

    def test_200_figures(self):
        row = Row([(-LONGEST, 1), (0, LONGEST - 5), (LONGEST, LONGEST)])
        self.assertEqual(written(row), line(row.stretches))
        self.assertEqual(read(written(row)).stretches, row.stretches)


class Read(RefusalCase):
    def bad(self, at, *texts):
        for text in texts:
            with self.subTest(text=text):
                self.refused_at(BadText, at, read, text)

    def test_rows(self):
        self.assertEqual(read("row\n").stretches, ())
        self.assertEqual(read("row -3+2 0+1\n").stretches, ((-3, 2), (0, 1)))
        self.assertIsInstance(read("row\n"), Row)

    def test_written_read_and_written_again(self):
        for pairs in ([], [(0, 1)], [(-3, 2), (0, 1)], [(-GREATEST, GREATEST - 1), (0, GREATEST)], spaced(30, -40)):
            text = written(Row(pairs))
            self.assertEqual(read(text).stretches, tuple(pairs))
            self.assertEqual(written(read(text)), text)

    def test_every_small_row(self):
        for places, row in small_rows(8):
            self.assertEqual(read(written(row)).stretches, row.stretches)

    def test_no_line_feed(self):
        self.bad(1, "", "row", "row -3+2 0+1", "x", " ", "rowx", "row ", "row 0+12", "row 0+1 ")

    def test_wrong_words(self):
        self.bad(1, "\n", "\nrow\n", "ro\n", "rows\n", "Row\n", "ROW\n", "row0+1\n", "0+1\n", "row row\n", "row 0\n",
                 "row 12\n", "row 345 900+1\n", "row 0+1 12\n",
                 "row +\n", "row 0+\n", "row +1\n", "row 0++1\n", "row 0+1+1\n", "row 0-1\n", "row 0+1,3+1\n",
                 "row x+1\n", "row 0+x\n", "row 0+1 x\n", "row 0+1 3\n", "row -+1\n", "row 0+1 3+\n")

    def test_blanks(self):
        self.bad(1, " row\n", "row \n", "row  0+1\n", "row 0+1 \n", "row 0+1  3+1\n", "row 0 +1\n", "row 0+ 1\n",
                 "row 0 + 1\n", "row - 1+1\n", "  \n")

    def test_numbers_not_as_written(self):
        self.bad(1, "row -0+1\n", "row 00+1\n", "row 01+1\n", "row 0+01\n", "row 0+00\n", "row +0+1\n",
                 "row 1_0+1\n", "row 0+1_0\n", "row 0+" + "9" * 201 + "\n", "row -" + "9" * 201 + "+1\n")

    def test_a_length_has_no_minus_sign(self):
        self.bad(1, "row 0+-1\n", "row 0+-0\n", "row 0+1 5+-12\n")

    def test_something_behind_the_line_feed(self):
        self.bad(2, "row\n\n", "row\n ", "row\nrow\n", "row 0+1\nrow 0+1\n", "row 0+1\nx", "row\n0")

    def test_the_first_row_goes_ahead_of_what_is_behind(self):
        self.bad(1, "rowx\nx", "row 0+01\n\n", "row 0+-1\nrow\n", "\n\n", "row 0+0 x\n\n")
        self.bad(1, line(spaced(31))[:-1], line(spaced(31))[:-1] + " \n", "row 0+0", "row 0+0 1\n")

    def test_behind_the_line_feed_goes_ahead_of_the_row(self):
        self.bad(2, line(spaced(31)) + "x", "row 0+0\n\n", "row 5+1 0+1\nrow\n", line([(0, 0)] * 31) + "\n")

    def test_too_many_goes_ahead_of_bad_row(self):
        self.assertEqual(read(line(spaced(30))).stretches, tuple(spaced(30)))
        self.refused(TooMany, read, line(spaced(31)))
        self.refused(TooMany, read, line([(0, 0)] * 31))
        self.refused(TooMany, read, line(spaced(30) + [(0, 1)]))

    def test_bad_row(self):
        for text in ("row 0+0\n", "row 0+1 5+0\n", "row 0+0 5+1\n", "row 0+2 2+1\n", "row 0+2 1+1\n", "row 0+2 0+2\n",
                     "row 0+2 -5+1\n", line([(0, 0)] * 30)):
            self.refused(BadRow, read, text)

    def test_a_text_of_5000_signs(self):
        self.bad(1, "row " + "1" * 4995 + "\n", " " * 5000, "row" + " " * 4996 + "\n", "0+1 " * 1250)
        self.bad(2, "row\n" + " " * 4996)


class Picture(RefusalCase):
    def test_windows_of_a_row(self):
        row = Row([(-3, 2), (0, 1)])
        self.assertEqual(picture(row, -5, 3), "..**.*..")
        self.assertEqual(picture(row, -3, 1), "**.*")
        self.assertEqual(picture(row, -2, 0), "*.")
        self.assertEqual(picture(row, -9, -3), "......")
        self.assertEqual(picture(row, 1, 4), "...")
        self.assertEqual(picture(Row([]), -1, 2), "...")

    def test_empty_windows(self):
        row = Row([(0, 5)])
        for low, high in ((0, 0), (3, 3), (3, 2), (GREATEST, -GREATEST), (401, 0)):
            self.assertEqual(picture(row, low, high), "")

    def test_400_and_401_boxes(self):
        for low in (0, -200, 7, GREATEST, -GREATEST):
            row = Row([(low + 398, 2)])
            self.assertEqual(picture(row, low, low + 400), "." * 398 + "**")
            self.refused(TooMany, picture, row, low, low + 401)
        self.refused(TooMany, picture, Row([]), -GREATEST, GREATEST)

    def test_within_a_long_stretch(self):
        row = Row([(-GREATEST, GREATEST), (1, GREATEST)])
        self.assertEqual(picture(row, -3, 4), "***.***")
        self.assertEqual(picture(row, GREATEST - 1, GREATEST + 2), "**.")

    def test_every_small_row(self):
        for places, row in small_rows(7):
            signs = ["*" if place in places else "." for place in range(-2, 10)]
            self.assertEqual(picture(row, -2, 10), "".join(signs))


class Pictured(RefusalCase):
    def test_read_from_a_place_on(self):
        for low in (0, 5, -5, GREATEST, -GREATEST):
            self.assertEqual(pictured("..**.*", low).stretches, ((low + 2, 2), (low + 5, 1)))
            self.assertEqual(pictured("*", low).stretches, ((low, 1),))
            self.assertEqual(pictured("", low).stretches, ())
            self.assertEqual(pictured("...", low).stretches, ())
        self.assertIsInstance(pictured("", 0), Row)

    def test_every_small_row(self):
        for places, row in small_rows(8):
            self.assertEqual(pictured(picture(row, -2, 10), -2).stretches, row.stretches)

    def test_more_than_400_signs(self):
        self.assertEqual(pictured("*" * 5000, -7).stretches, ((-7, 5000),))
        self.assertEqual(pictured("." * 4999 + "*", 0).stretches, ((4999, 1),))
        self.assertEqual(pictured("*" * 401 + "." + "*" * 401, 0).stretches, ((0, 401), (402, 401)))

    def test_a_wrong_sign_at_any_place(self):
        for at in range(1, 8):
            self.refused_at(BadText, at, pictured, "*.**..*"[:at - 1] + "x" + "*.**..*"[at:], -40)
        self.refused_at(BadText, 5000, pictured, "*" * 4999 + "\n", 0)

    def test_the_first_of_several_wrong_signs(self):
        self.refused_at(BadText, 2, pictured, "*o.o*", 0)
        self.refused_at(BadText, 1, pictured, "ooooo", 9)

    def test_every_other_sign(self):
        for sign in SIGNS:
            if sign not in "*.":
                self.refused_at(BadText, 3, pictured, ".*" + sign, 0)

    def test_30_and_31_stretches(self):
        self.assertEqual(pictured("*." * 30, 4).stretches, tuple(spaced(30, 4)))
        self.refused(TooMany, pictured, "*." * 31, 4)
        self.refused(TooMany, pictured, "*." * 30 + "*", 4)

    def test_a_wrong_sign_goes_ahead_of_too_many(self):
        self.refused_at(BadText, 63, pictured, "*." * 31 + "x", 0)
        self.refused_at(BadText, 1, pictured, "x" + "*." * 31, 0)

    def test_balls_at_just_the_places_of_its_stars(self):
        text = ".*..***.*"
        row = pictured(text, -4)
        for place in range(-8, 9):
            self.assertIs(ball_at(row, place), 0 <= place + 4 < 9 and text[place + 4] == "*")


if __name__ == "__main__":
    unittest.main()
