"""Tables of lumps as texts."""

from lumprow.errors import BadText
from lumprow.tables import check_table
from lumprow.texts import lines_of, number_text, number_told


def table_text(table):
    return "".join([lump_text(size, spot, number) for size, spot, number in table])


def lump_text(size, spot, number):
    return " ".join(["lump", number_text(size), "at", number_text(spot), "times", number_text(number)]) + "\n"


def table_told(text):
    table = []
    for at, line in enumerate(lines_of(text), start=1):
        triple = lump_told(line)
        if triple is None:
            raise BadText(at)
        table.append(triple)
    # Whether the triples make a table is asked behind all rows, for a wrong row goes ahead of it.
    check_table(table)
    return table


# None where the row isn't ended, or isn't as a lump is written.
def lump_told(line):
    words = [] if line is None else line.split(" ")
    if len(words) != 6 or words[::2] != ["lump", "at", "times"]:
        return None
    numbers = [number_told(word) for word in words[1::2]]
    return None if None in numbers else tuple(numbers)
