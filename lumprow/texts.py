"""Numbers and rows as texts, and rows as pictures."""

from lumprow.errors import BadText, TooMany
from lumprow.rows import Row, ball_at, gathered

FIGURES = "0123456789"
MOST_FIGURES = 200
MOST_BOXES = 400
BALL = "*"
FREE = "."


def number_text(number):
    return str(number)


def number_told(text):
    figures = text[1:] if text.startswith("-") else text
    # The figures are counted first, for Python itself doesn't turn any length of text into a number.
    if figures == "" or len(figures) > MOST_FIGURES:
        return None
    if not all([figure in FIGURES for figure in figures]):
        return None
    if figures.startswith("0") and text != "0":
        return None
    return int(text)


# The rows of a text; in the place of a last one that no line feed ends stands None.
def lines_of(text):
    lines = text.split("\n")
    last = lines.pop()
    return lines if last == "" else lines + [None]


def written(row):
    words = [number_text(begin) + "+" + number_text(length) for begin, length in row.stretches]
    return " ".join(["row"] + words) + "\n"


def read(text):
    end = text.find("\n")
    if end < 0:
        raise BadText(1)
    stretches = stretches_told(text[:end])
    if stretches is None:
        raise BadText(1)
    if end + 1 < len(text):
        raise BadText(2)
    return Row(stretches)


# None where the words are wrong; whether the stretches make a row is for Row to judge.
def stretches_told(line):
    words = line.split(" ")
    if words[0] != "row":
        return None
    stretches = [stretch_told(word) for word in words[1:]]
    return None if None in stretches else stretches


def stretch_told(word):
    plus = word.find("+")
    if plus < 0:
        return None
    begin = number_told(word[:plus])
    length = number_told(word[plus + 1:])
    if begin is None or length is None or length < 0:
        return None
    return (begin, length)


def picture(row, low, high):
    if high - low > MOST_BOXES:
        raise TooMany("a picture has at most 400 boxes")
    return "".join([BALL if ball_at(row, place) else FREE for place in range(low, high)])


def pictured(text, low):
    # All signs are looked at ahead of making the row, for a wrong sign goes ahead of TooMany.
    for at, sign in enumerate(text, start=1):
        if sign != BALL and sign != FREE:
            raise BadText(at)
    return Row(gathered([low + steps for steps, sign in enumerate(text) if sign == BALL]))
