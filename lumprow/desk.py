"""The desk: a row, deeds that are done on it, told by texts, and taken back."""

from lumprow.errors import BadDeed
from lumprow.jumps import after
from lumprow.reports import table_text
from lumprow.rows import MOST_STRETCHES, Row, ball_at, moved
from lumprow.tables import table_of
from lumprow.texts import lines_of, number_told, read, written
from lumprow.thinning import closed_up

MOST_FIGURES = 60
MOST_FIGURES_OF_TIMES = 30


class Desk:
    def __init__(self, text):
        # The first row, and the row behind each deed that was not taken back: the last one is the row as it stands.
        self.trail = [read(text)]

    def do(self, text):
        trail = list(self.trail)
        for at, line in enumerate(lines_of(text), start=1):
            if line == "back" and len(trail) > 1:
                trail.pop()
            else:
                trail.append(behind_deed(trail[-1], line, at))
        # Not ahead of the last row: a refused text leaves the desk as it was.
        self.trail = trail

    def left(self):
        return len(self.trail) - 1

    def row(self):
        return Row(self.trail[-1].stretches)

    def text(self):
        return written(self.trail[-1])

    def lumps(self):
        return table_text(table_of(self.trail[-1]))

    def ahead(self, seats, times):
        return written(after(self.trail[-1], seats, times))


def behind_deed(row, line, at):
    behind = None if line is None else behind_words(row, line.split(" "))
    if behind is None:
        raise BadDeed(at)
    return behind


# None where the words are no deed, or one that can't be done on this row.
def behind_words(row, words):
    if len(words) == 3 and words[0] == "go":
        return behind_goings(row, words[1], number_within(words[2], MOST_FIGURES_OF_TIMES))
    number = number_within(words[-1], MOST_FIGURES)
    if len(words) != 2 or number is None:
        return None
    if words[0] == "put":
        return with_ball(row, number)
    if words[0] == "take":
        return without_ball(row, number)
    return moved(row, number) if words[0] == "move" else None


# The number that a word writes, None where it writes none or one with more figures.
def number_within(word, most):
    return number_told(word) if len(word.lstrip("-")) <= most else None


def behind_goings(row, word, times):
    if times is None:
        return None
    if word == "all":
        return after(row, None, times)
    seats = number_within(word, MOST_FIGURES)
    return None if seats is None or seats < 1 else after(row, seats, times)


def with_ball(row, place):
    if ball_at(row, place):
        return None
    return row_of_few(closed_up(sorted(list(row.stretches) + [(place, 1)])))


def without_ball(row, place):
    if not ball_at(row, place):
        return None
    pairs = []
    for begin, length in row.stretches:
        if begin <= place < begin + length:
            pairs.extend([(begin, place - begin), (place + 1, begin + length - place - 1)])
        else:
            pairs.append((begin, length))
    return row_of_few(closed_up(pairs))


def row_of_few(stretches):
    return Row(stretches) if len(stretches) <= MOST_STRETCHES else None
