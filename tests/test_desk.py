"""Points 12.3 to 12.5: the desk."""

import random
import unittest

from lumprow.desk import Desk
from lumprow.errors import BadDeed, BadRow, BadSeats, BadText, TooMany
from lumprow.jumps import after
from lumprow.rows import Row, moved
from lumprow.tables import table_of
from lumprow.texts import read, written

from helping import (
    FORTY, GREATEST, RefusalCase, ferried_so_often, great_rows, line_of, pairs_of, places_of, scattered, small_rows,
    spaced, triples_of_line)

MOST_TIMES = 10 ** 30 - 1
START = "row 0+3 5+1\n"
FULL = "row" + "".join(" %d+3" % (5 * k) for k in range(30)) + "\n"
# None of these is a deed on any row, each for another reason.
NO_DEEDS = (
    # Words left out, more of them, others, or in another order.
    "", "go", "go 1", "go all", "put", "take", "move", "go 1 2 3", "put 9 9", "take 0 0", "move 1 1", "back back",
    "back 1", "back 0", "1", "9", "1 2", "1 2 3", "go one 2", "go 1 once", "go None 1", "go 1 all", "go all all",
    "go ALL 1", "go All 1", "go alll 1", "GO 1 1", "Go 1 1", "gone 1 1", "goo 1 1", "g 1 1", "Put 9", "puts 9", "pu 9",
    "Take 0", "takes 0", "tak 0", "Move 1", "moves 1", "mov 1", "Back", "BACK", "backs", "bac", "row", "row 0+1",
    "left", "put all", "take all", "move all", "put x", "take x", "move x", "9 put", "1 go 1", "all go 1",
    "put 9 put 10", "undo", "do", "ahead 1 1", "text", "lump 1 at 3 times 2",
    # Blanks.
    " ", " go 1 1", "go 1 1 ", "go  1 1", "go 1  1", " put 9", "put 9 ", "put  9", " take 0", "take 0 ", "take  0",
    " move 1", "move 1 ", "move  1", " back", "back ", "go1 1", "go 11", "put9", "take0", "move1", "ba ck", "put - 9",
    "go 1,1", "go\t1 1", "move - 1", "go all1", "put ", "take ", "move ", "go ", "go 1 ", "go  1",
    # Numbers written otherwise.
    "put 09", "put +9", "put -0", "put 00", "put --9", "put 9-", "put 1_0", "put 9.0", "put 9,", "put -", "put 0x9",
    "take 00", "take +0", "take -0", "take 0.", "move 01", "move +1", "move -0", "move 00", "move 1e1", "move -01",
    "go 01 1", "go +1 1", "go 1 01", "go 1 +1", "go 1 -0", "go 1 00", "go 1 --1", "go 1.0 1", "go 1 1.0", "go all 01",
    "go all +1", "go all -0", "go 1_0 1", "go 1 1_0",
    # Seats below 1.
    "go 0 1", "go -1 1", "go -2 3", "go 0 0", "go -0 1", "go -1 0", "go 00 1", "go -%d 1" % GREATEST,
    # Numbers of too many figures.
    "put 1" + "0" * 60, "put -1" + "0" * 60, "put " + "9" * 61, "put 1" + "0" * 199, "put 1" + "0" * 200,
    "move 1" + "0" * 60, "move -1" + "0" * 60, "go 1" + "0" * 60 + " 1", "go " + "9" * 61 + " 0",
    "go 1 1" + "0" * 30, "go 1 -1" + "0" * 30, "go 1 " + "9" * 31, "go all 1" + "0" * 30, "go all -1" + "0" * 30,
    "go 1 1" + "0" * 59, "go all 1" + "0" * 59, "move " + "1" * 4000, "go " + "1" * 2000 + " " + "1" * 2000)


class DeskCase(RefusalCase):
    def stands(self, desk, text, left):
        """Asserts all that a desk tells of its row, and how many deeds can be taken back."""
        self.assertEqual(desk.text(), text)
        self.assertIs(type(desk.row()), Row)
        self.assertEqual(desk.row().stretches, read(text).stretches)
        self.assertEqual(desk.lumps(), "".join("lump %d at %d times %d\n" % lump for lump in table_of(read(text))))
        self.assertEqual(desk.left(), left)
        self.assertEqual(desk.ahead(1, 0), text)

    def does(self, start, deeds, behind):
        """Asserts what comes of the deeds, and that each of them is one deed that can be taken back."""
        desk = Desk(start)
        self.assertIsNone(desk.do(deeds))
        self.stands(desk, behind, deeds.count("\n"))
        desk.do("back\n" * deeds.count("\n"))
        self.stands(desk, start, 0)

    def not_done(self, desk, at, deeds):
        """Asserts that the deeds are refused at that row, and leave the desk as it was."""
        text, left = desk.text(), desk.left()
        self.refused_at(BadDeed, at, desk.do, deeds)
        self.stands(desk, text, left)

    def not_on(self, start, deed):
        self.not_done(Desk(start), 1, deed + "\n")


class Go(DeskCase):
    def test_by_hand(self):
        self.does(START, "go all 1\n", "row 3+2 6+2\n")
        self.does(START, "go all 2\n", "row 5+1 8+3\n")
        self.does("row 5+1 8+3\n", "go all -2\n", START)
        self.does(START, "go 2 1\n", "row 2+3 6+1\n")
        self.does(START, "go 1 -4\n", "row -4+3 1+1\n")
        self.does(START, "go 2 0\n", START)
        self.does("row\n", "go 5 7\n", "row\n")
        self.does("row\n", "go all -7\n", "row\n")

    def test_every_small_row_box_by_box(self):
        for places, row in small_rows(7):
            for seats, word in ((1, "1"), (2, "2"), (None, "all")):
                for times in (-3, 1, 2):
                    left = ferried_so_often(places, seats, times)
                    desk = Desk(written(row))
                    desk.do("go %s %d\n" % (word, times))
                    self.assertEqual(desk.row().stretches, pairs_of(left))

    def test_great_seats_and_times(self):
        for small, by, move, row in great_rows():
            start = written(row)
            for seats in (1, by, GREATEST, None):
                for times in (1, -7, MOST_TIMES, -MOST_TIMES):
                    desk = Desk(start)
                    desk.do("go %s %d\n" % ("all" if seats is None else seats, times))
                    self.assertEqual(desk.text(), written(after(row, seats, times)))
                    desk.do("back\n")
                    self.assertEqual(desk.text(), start)

    def test_60_figures_of_seats_and_30_of_times(self):
        for seats in (10 ** 59, GREATEST):
            for times in (10 ** 29, MOST_TIMES, -10 ** 29, -MOST_TIMES):
                self.does("row 0+3\n", "go %d %d\n" % (seats, times), "row %d+3\n" % (3 * times))
        self.does("row 0+%d\n" % GREATEST, "go all %d\n" % MOST_TIMES,
                  "row %d+%d\n" % (GREATEST * MOST_TIMES, GREATEST))

    def test_seats_below_1(self):
        for seats in (0, -1, -GREATEST):
            for start in (START, "row\n"):
                self.not_on(start, "go %d 1" % seats)
                self.not_on(start, "go %d 0" % seats)


class Put(DeskCase):
    def test_by_hand(self):
        self.does("row\n", "put 7\n", "row 7+1\n")
        self.does("row\n", "put -7\n", "row -7+1\n")
        self.does("row\n", "put 0\n", "row 0+1\n")
        self.does(START, "put 9\n", "row 0+3 5+1 9+1\n")
        self.does(START, "put -9\n", "row -9+1 0+3 5+1\n")
        self.does("row 0+3 9+1\n", "put 5\n", "row 0+3 5+1 9+1\n")

    def test_at_both_ends_of_stretches(self):
        self.does(START, "put -1\n", "row -1+4 5+1\n")
        self.does(START, "put 3\n", "row 0+4 5+1\n")
        self.does(START, "put 4\n", "row 0+3 4+2\n")
        self.does(START, "put 6\n", "row 0+3 5+2\n")
        self.does(START, "put -2\n", "row -2+1 0+3 5+1\n")
        self.does(START, "put 7\n", "row 0+3 5+1 7+1\n")

    def test_where_stretches_join(self):
        self.does("row 0+3 4+1\n", "put 3\n", "row 0+5\n")
        self.does("row -9+1 0+3 4+7 20+1\n", "put 3\n", "row -9+1 0+11 20+1\n")
        self.does(START, "put 3\nput 4\n", "row 0+6\n")

    def test_every_place_of_every_small_row(self):
        for places, row in small_rows(6):
            start = written(row)
            for place in range(-2, 9):
                if place in places:
                    self.not_on(start, "put %d" % place)
                else:
                    self.does(start, "put %d\n" % place, written(Row(pairs_of(places | {place}))))

    def test_great_places(self):
        self.does("row 0+%d\n" % GREATEST, "put %d\n" % GREATEST, "row 0+%d\n" % (GREATEST + 1))
        self.does("row\n", "put %d\nput -%d\n" % (GREATEST, GREATEST), "row -%d+1 %d+1\n" % (GREATEST, GREATEST))
        self.does("row -%d+%d 1+%d\n" % (GREATEST, GREATEST, GREATEST), "put 0\n",
                  "row -%d+%d\n" % (GREATEST, 2 * GREATEST + 1))
        for place in (0, FORTY, GREATEST - 1):
            self.not_on("row 0+%d\n" % GREATEST, "put %d" % place)

    def test_where_there_would_be_31_stretches(self):
        full = written(Row(spaced(30, 0, 3)))
        for place in (-2, 88 + 1, -GREATEST, GREATEST):
            self.not_on(full, "put %d" % place)
        self.not_on(written(Row(spaced(30, 0, 4))), "put 2")
        # These are no more than 30: longer ones, and joined ones.
        for place in (-1, 1, 2, 86, 88):
            self.does(full, "put %d\n" % place, written(Row(pairs_of(places_of(Row(spaced(30, 0, 3))) | {place}))))
        self.does(written(Row(spaced(30))), "put 1\n", written(Row([(0, 3)] + spaced(28, 4))))
        self.does(written(Row(spaced(29))), "put 99\n", written(Row(spaced(29) + [(99, 1)])))

    def test_31_stretches_only_between_two_deeds(self):
        start = written(Row(spaced(30, 0, 4)))
        self.not_done(Desk(start), 1, "put 2\nput 1\n")
        self.does(start, "put 1\nput 2\n", written(Row([(0, 3)] + spaced(29, 4, 4))))


class Take(DeskCase):
    def test_by_hand(self):
        self.does(START, "take 5\n", "row 0+3\n")
        self.does("row 7+1\n", "take 7\n", "row\n")
        self.does("row -7+1\n", "take -7\n", "row\n")
        self.does("row 0+1\n", "take 0\n", "row\n")

    def test_at_both_ends_of_stretches_and_between(self):
        self.does(START, "take 0\n", "row 1+2 5+1\n")
        self.does(START, "take 2\n", "row 0+2 5+1\n")
        self.does(START, "take 1\n", "row 0+1 2+1 5+1\n")
        self.does("row -9+1 0+9 20+1\n", "take 3\n", "row -9+1 0+3 4+5 20+1\n")
        self.does("row 0+2\n", "take 0\ntake 1\n", "row\n")

    def test_every_place_of_every_small_row(self):
        for places, row in small_rows(6):
            start = written(row)
            for place in range(-2, 9):
                if place in places:
                    self.does(start, "take %d\n" % place, written(Row(pairs_of(places - {place}))))
                else:
                    self.not_on(start, "take %d" % place)

    def test_great_places(self):
        long = "row 0+%d\n" % GREATEST
        self.does(long, "take %d\n" % FORTY, "row 0+%d %d+%d\n" % (FORTY, FORTY + 1, GREATEST - FORTY - 1))
        self.does(long, "take %d\n" % (GREATEST - 1), "row 0+%d\n" % (GREATEST - 1))
        self.does(long, "take 0\n", "row 1+%d\n" % (GREATEST - 1))
        for place in (-1, -GREATEST, GREATEST):
            self.not_on(long, "take %d" % place)
        self.does("row %d+1\n" % -GREATEST, "take %d\n" % -GREATEST, "row\n")

    def test_where_there_would_be_31_stretches(self):
        for place in (1, 76, 146):
            self.not_on(FULL, "take %d" % place)
        places = places_of(read(FULL))
        for place in (0, 2, 75, 77, 145, 147):
            self.does(FULL, "take %d\n" % place, written(Row(pairs_of(places - {place}))))
        self.does(written(Row(spaced(30))), "take 58\n", written(Row(spaced(29))))
        self.does("row" + FULL[len("row 0+3"):], "take 6\n", "row 5+1 7+1" + FULL[len("row 0+3 5+3"):])

    def test_none_where_no_ball_is(self):
        for place in (0, 1, -GREATEST):
            self.not_on("row\n", "take %d" % place)


class Move(DeskCase):
    def test_by_hand(self):
        self.does(START, "move 4\n", "row 4+3 9+1\n")
        self.does(START, "move -4\n", "row -4+3 1+1\n")
        self.does(START, "move 0\n", START)
        self.does("row\n", "move 4\n", "row\n")

    def test_60_figures(self):
        for by in (10 ** 59, GREATEST, -10 ** 59, -GREATEST):
            for start in (START, FULL, "row\n", "row %d+7\n" % -GREATEST):
                self.does(start, "move %d\n" % by, written(moved(read(start), by)))


class Back(DeskCase):
    def test_each_deed_is_taken_back(self):
        for deed in ("go 2 1", "go all -5", "go 3 0", "put 9", "take 0", "take 1", "move 7", "move 0"):
            desk = Desk(START)
            desk.do(deed + "\n")
            self.assertEqual(desk.left(), 1)
            desk.do("back\n")
            self.stands(desk, START, 0)
            desk.do(deed + "\nback\n")
            self.stands(desk, START, 0)
            self.not_done(desk, 1, "back\n")

    def test_nothing_is_left(self):
        for start in ("row\n", START, FULL):
            desk = Desk(start)
            self.not_done(desk, 1, "back\n")
            self.not_done(desk, 3, "move 1\nback\nback\n")
            self.not_done(desk, 1, "back\nmove 1\n")
            self.assertEqual(desk.left(), 0)
        desk = Desk(START)
        desk.do("move 1\nmove 1\n")
        self.not_done(desk, 3, "back\nback\nback\n")
        desk.do("back\nback\n")
        self.stands(desk, START, 0)

    def test_behind_other_backs(self):
        desk = Desk("row\n")
        desk.do("put 0\nput 2\nput 4\n")
        desk.do("back\n")
        self.stands(desk, "row 0+1 2+1\n", 2)
        desk.do("back\n")
        self.stands(desk, "row 0+1\n", 1)
        # A deed done behind backs is the last one; what was taken back stays so.
        desk.do("put 6\n")
        self.stands(desk, "row 0+1 6+1\n", 2)
        desk.do("back\nback\n")
        self.stands(desk, "row\n", 0)
        self.not_done(desk, 1, "back\n")

    def test_back_itself_is_never_taken_back(self):
        desk = Desk(START)
        desk.do("put 9\nput 11\nback\nback\n")
        self.stands(desk, START, 0)

    def test_mixed_in_one_text(self):
        desk = Desk("row\n")
        desk.do("put 0\nback\nput 1\nput 2\nback\nmove 5\nback\nback\nput 3\n")
        self.stands(desk, "row 3+1\n", 1)

    def test_hundreds_of_deeds(self):
        desk = Desk("row 0+1\n")
        for k in range(6):
            desk.do("move 1\n" * 100)
        self.stands(desk, "row 600+1\n", 600)
        desk.do("back\n" * 599)
        self.stands(desk, "row 1+1\n", 1)
        self.not_done(desk, 2, "back\n" * 5)


class Refused(DeskCase):
    def test_rows_that_are_no_deeds(self):
        for start in (START, "row\n", FULL):
            for deed in NO_DEEDS:
                with self.subTest(deed=deed):
                    desk = Desk(start)
                    desk.do("move 1\n")
                    self.not_done(desk, 1, deed + "\n")
                    self.not_done(desk, 2, "move 1\n" + deed + "\n")
                    self.not_done(desk, 3, "back\nmove 1\n" + deed + "\nback\n")

    def test_the_empty_text(self):
        desk = Desk(START)
        self.assertIsNone(desk.do(""))
        self.stands(desk, START, 0)
        desk.do("move 1\n")
        desk.do("")
        self.stands(desk, "row 1+3 6+1\n", 1)

    def test_a_last_row_that_is_not_ended(self):
        desk = Desk(START)
        for deed in ("go 1 1", "put 9", "take 0", "move 1", "x", " "):
            self.not_done(desk, 1, deed)
            self.not_done(desk, 2, "move 1\n" + deed)
            self.not_done(desk, 3, "move 1\nback\n" + deed)
        desk.do("move 1\n")
        self.not_done(desk, 1, "back")
        self.not_done(desk, 2, "move 1\nback")
        # A wrong row ahead of it is the first one.
        self.not_done(desk, 1, "x\nback")

    def test_empty_rows(self):
        desk = Desk(START)
        self.not_done(desk, 1, "\n")
        self.not_done(desk, 2, "move 1\n\n")
        self.not_done(desk, 2, "move 1\n\nmove 1\n")
        self.not_done(desk, 1, "\nmove 1\n")
        self.not_done(desk, 1, "\n" * 5000)

    def test_the_first_of_several(self):
        desk = Desk(START)
        for one in NO_DEEDS[::9] + ("put 1", "take 4", "back"):
            for two in NO_DEEDS[::13] + ("put 1", "take 4", "back"):
                self.not_done(desk, 1, one + "\n" + two + "\n")
                self.not_done(desk, 2, "move 0\n" + one.replace("back", "back ") + "\n" + two)

    def test_as_the_row_then_is(self):
        desk = Desk(START)
        self.not_done(desk, 2, "put 9\nput 9\n")
        self.not_done(desk, 2, "take 0\ntake 0\n")
        self.not_done(desk, 2, "move 1\ntake 0\n")
        self.not_done(desk, 3, "take 0\nback\nput 0\n")
        self.not_done(desk, 3, "go all 1\nmove 1\nput 4\n")
        desk.do("take 0\nput 0\nput 9\ntake 9\nmove 1\ntake 1\n")
        self.stands(desk, "row 2+2 6+1\n", 6)

    def test_nothing_of_a_refused_text_is_done_or_taken_back_later(self):
        desk = Desk(START)
        desk.do("move 10\n")
        for deeds, at in (("move 1\nmove 2\nx\n", 3), ("back\nx\n", 2), ("back\nmove 5\nback\nback\n", 4),
                          ("put 0\nput 2\ntake 4\n", 3), ("go all 5\ngo 0 5\n", 2), ("move 1\nmove 1", 2)):
            self.not_done(desk, at, deeds)
        self.stands(desk, "row 10+3 15+1\n", 1)
        desk.do("back\n")
        self.stands(desk, START, 0)
        self.not_done(desk, 1, "back\n")

    def test_a_text_behind_a_refused_one(self):
        desk = Desk(START)
        self.not_done(desk, 2, "move 1\nmove x\n")
        desk.do("move 2\n")
        self.stands(desk, "row 2+3 7+1\n", 1)

    def test_31_stretches_in_the_midst_of_a_text(self):
        desk = Desk("row\n")
        self.not_done(desk, 31, "".join("put %d\n" % (2 * k) for k in range(31)))
        desk.do("".join("put %d\n" % (2 * k) for k in range(30)))
        self.stands(desk, written(Row(spaced(30))), 30)
        self.not_done(desk, 1, "put 60\n")
        desk.do("put 59\nput 60\n")
        self.stands(desk, written(Row(spaced(29) + [(58, 3)])), 32)
        self.not_done(desk, 1, "take 59\n")
        desk.do("take 0\ntake 59\n")
        self.stands(desk, written(Row(spaced(30, 2))), 34)


class Model:
    """A desk told box by box: the places of balls ahead of each deed, and now."""

    def __init__(self, places):
        self.trail = [set(places)]

    def done(self, deed):
        """Does a deed, a tuple of words and numbers; False where it can't be done."""
        places = self.trail[-1]
        if deed[0] == "back":
            if len(self.trail) == 1:
                return False
            self.trail.pop()
            return True
        if deed[0] == "go":
            behind = ferried_so_often(places, None if deed[1] == "all" else deed[1], deed[2])
        elif deed[0] == "move":
            behind = {place + deed[1] for place in places}
        else:
            behind = places ^ {deed[1]}
            if (deed[0] == "put") == (deed[1] in places) or len(pairs_of(behind)) > 30:
                return False
        self.trail.append(behind)
        return True


def some_deed(chance):
    word = chance.choice(("go", "put", "put", "take", "take", "move", "back", "back"))
    if word == "go":
        return (word, chance.choice((1, 2, 3, "all")), chance.randint(-4, 4))
    return (word,) if word == "back" else (word, chance.randint(-15, 15))


class BoxByBox(DeskCase):
    def test_many_texts_on_one_desk(self):
        chance = random.Random(12)
        for seed in range(25):
            row = scattered(seed, seed % 8, 4, 4)
            desk, model = Desk(written(row)), Model(places_of(row))
            refused = 0
            for text in range(30):
                deeds = [some_deed(chance) for k in range(chance.randint(0, 4))]
                kept = list(model.trail)
                wrong = [at for at, deed in enumerate(deeds, start=1) if not model.done(deed)]
                written_deeds = "".join(" ".join(str(word) for word in deed) + "\n" for deed in deeds)
                if wrong:
                    model.trail = kept
                    refused += 1
                    self.refused_at(BadDeed, wrong[0], desk.do, written_deeds)
                else:
                    desk.do(written_deeds)
                self.assertEqual(desk.row().stretches, pairs_of(model.trail[-1]))
                self.assertEqual(desk.left(), len(model.trail) - 1)
            self.assertTrue(0 < refused < 30)

    def test_lumps_letter_by_letter(self):
        for places, row in small_rows(7):
            told = "".join("lump %d at %d times %d\n" % lump for lump in triples_of_line(line_of(row, -2, 9), -2))
            self.assertEqual(Desk(written(row)).lumps(), told)


class Told(DeskCase):
    def test_at_first(self):
        for start in ("row\n", START, FULL, "row %d+%d\n" % (-GREATEST, GREATEST)):
            self.stands(Desk(start), start, 0)
        self.assertEqual(Desk("row\n").lumps(), "")
        self.assertEqual(Desk(START).lumps(), "lump 1 at 3 times 1\nlump 3 at 0 times 1\n")

    def test_behind_each_deed(self):
        desk = Desk(START)
        for left, deed, text in (
                (1, "go all 1", "row 3+2 6+2\n"), (2, "put 5", "row 3+5\n"), (3, "move -3", "row 0+5\n"),
                (4, "take 2", "row 0+2 3+2\n"), (3, "back", "row 0+5\n"), (4, "go 2 3", "row 6+5\n")):
            desk.do(deed + "\n")
            self.stands(desk, text, left)
            for seats in (1, 2, None):
                for times in (-2, 1, 40):
                    self.assertEqual(desk.ahead(seats, times), written(after(read(text), seats, times)))

    def test_ahead_by_hand(self):
        desk = Desk(START)
        self.assertEqual(desk.ahead(None, 1), "row 3+2 6+2\n")
        self.assertEqual(desk.ahead(None, 2), "row 5+1 8+3\n")
        self.assertEqual(desk.ahead(2, 1), "row 2+3 6+1\n")
        self.assertEqual(desk.ahead(1, -4), "row -4+3 1+1\n")
        self.assertEqual(desk.ahead(None, GREATEST), "row %d+1 %d+3\n" % (GREATEST + 3, 3 * GREATEST + 2))
        self.assertEqual(Desk("row\n").ahead(5, 7), "row\n")

    def test_ahead_does_nothing(self):
        desk = Desk(START)
        desk.do("move 1\n")
        for seats, times in ((1, 1), (None, -9), (2, GREATEST)):
            desk.ahead(seats, times)
            self.stands(desk, "row 1+3 6+1\n", 1)
        desk.do("back\n")
        self.stands(desk, START, 0)

    def test_ahead_is_what_go_does(self):
        for seed in range(20):
            start = written(scattered(seed, seed, 5, 5))
            for seats in (1, 3, None):
                for times in (-8, 5, MOST_TIMES):
                    desk = Desk(start)
                    told = desk.ahead(seats, times)
                    desk.do("go %s %d\n" % ("all" if seats is None else seats, times))
                    self.assertEqual(desk.text(), told)

    def test_ahead_of_seats_below_1(self):
        for start in (START, "row\n"):
            desk = Desk(start)
            desk.do("move 1\n")
            text = desk.text()
            for seats in (0, -1, -GREATEST):
                for times in (0, 1, -GREATEST):
                    self.refused(BadSeats, desk.ahead, seats, times)
            self.stands(desk, text, 1)

    def test_texts_of_200_figures(self):
        longest = 10 ** 200 - 1
        for start in ("row %d+%d\n" % (-longest, longest - 5), "row 0+1 %d+3\n" % longest):
            self.stands(Desk(start), start, 0)
        start = "row %d+%d\n" % (-10 ** 199, 10 ** 199)
        self.does(start, "move 1\nput 7\ntake 7\ngo 5 1\n", "row %d+%d\n" % (6 - 10 ** 199, 10 ** 199))

    def test_a_row_of_more_figures_than_a_deed_may_have(self):
        desk = Desk("row 0+%d\n" % GREATEST)
        desk.do("go all %d\n" % MOST_TIMES * 3)
        self.stands(desk, "row %d+%d\n" % (3 * GREATEST * MOST_TIMES, GREATEST), 3)

    def test_two_desks(self):
        one, two = Desk(START), Desk(START)
        one.do("put 9\nmove 4\n")
        self.stands(two, START, 0)
        two.do("take 0\n")
        self.stands(one, "row 4+3 9+1 13+1\n", 2)
        one.do("back\nback\n")
        self.stands(two, "row 1+2 5+1\n", 1)
        self.not_done(one, 1, "back\n")
        self.stands(two, "row 1+2 5+1\n", 1)

    def test_what_was_told_stays(self):
        desk = Desk(START)
        row, text, lumps = desk.row(), desk.text(), desk.lumps()
        desk.do("go all 1\nput 5\n")
        self.assertEqual(row.stretches, ((0, 3), (5, 1)))
        self.assertEqual(text, START)
        self.assertEqual(lumps, "lump 1 at 3 times 1\nlump 3 at 0 times 1\n")
        told = desk.row()
        told.stretches = ()
        self.stands(desk, "row 3+5\n", 2)
        self.assertIsNot(desk.row(), desk.row())

    def test_a_desk_is_refused_as_read_refuses(self):
        for text in ("", "row", "x\n", "row 0+01\n", "row 0+-1\n", "go 1 1\n", "row 0+0 x\n"):
            self.refused_at(BadText, 1, Desk, text)
        for text in ("row\n\n", START + "x", START + START, "row 0+0\n\n", START + "move 1\n"):
            self.refused_at(BadText, 2, Desk, text)
        for text in ("row 0+0\n", "row 0+2 2+1\n", "row 5+1 0+1\n"):
            self.refused(BadRow, Desk, text)
        for pairs in (spaced(31), [(0, 0)] * 31):
            self.refused(TooMany, Desk, "row" + "".join(" %d+%d" % pair for pair in pairs) + "\n")


if __name__ == "__main__":
    unittest.main()
