"""So many goings of ferries at once.

A going keeps a row's lumps and only moves their spots, each lump by its share alone,
so that any number of goings is one step.
"""

from lumprow.ferries import check_seats, share_of
from lumprow.tables import check_table, row_of, table_of


def shifted(table, seats, times):
    check_seats(seats)
    check_table(table)
    # All spots of one size are moved alike, so the table stays ascending.
    return [(size, spot + times * share_of(size, seats), number) for size, spot, number in table]


def after(row, seats, times):
    return row_of(shifted(table_of(row), seats, times))


def done(row, deeds):
    table = table_of(row)
    for seats, times in deeds:
        table = shifted(table, seats, times)
    return row_of(table)
