"""Tables of lumps: triples (size, spot, number), ascending, each size and spot once."""

from lumprow.errors import BadTable, TooMany
from lumprow.rows import Row
from lumprow.thinning import closes_at, put_in, struck, thickened, thinned

MOST_LUMPS = 30


def table_of(row):
    table = []
    left = row
    size = 0
    while left.stretches:
        # As long as no stretch is gone and none are joined, each pair struck is owed: no lump is among them.
        layers = closes_at(left)
        size += layers
        left = thinned(left, layers - 1)
        table.extend([(size, spot, pairs - owed) for spot, pairs, owed in struck(left) if pairs > owed])
        left = thinned(left, 1)
    return table


def check_table(table):
    ahead = None
    for size, spot, number in table:
        if size < 1 or number < 1:
            raise BadTable("sizes and numbers of lumps are from 1 on")
        if ahead is not None and (size, spot) <= ahead:
            raise BadTable("a table is ascending, with each size and spot once")
        ahead = (size, spot)
    if sum([number for size, spot, number in table]) > MOST_LUMPS:
        raise TooMany("a table has at most 30 lumps in all")


def row_of(table):
    check_table(table)
    lumps = {}
    for size, spot, number in table:
        lumps.setdefault(size, []).append((spot, number))
    sizes = list(lumps)
    row = Row([])
    # Each size beside the next lesser one, or nought: the layers between the two have no lumps.
    for lesser, size in reversed(list(zip([0] + sizes, sizes))):
        row = thickened(put_in(row, lumps[size]), size - lesser - 1)
    return row


def lumps_of(row):
    numbers = {}
    for size, spot, number in table_of(row):
        numbers[size] = numbers.get(size, 0) + number
    return list(numbers.items())


# The pairs (size, spot), one for each lump, by rising sizes, those of one size by their spots.
def lumps_apart(row):
    lumps = []
    for size, spot, number in table_of(row):
        lumps.extend([(size, spot)] * number)
    return lumps
