"""The walk of a row: up by one over a free box, down by one over a ball."""

from lumprow.rows import ball_at, ball_count, balls_below


def walk(row, cut):
    return cut - 2 * balls_below(row, cut)


def top(row, cut):
    # Left of the cut the walk turns down only where a stretch begins.
    return max([walk(row, cut)] + [walk(row, begin) for begin, length in row.stretches if begin < cut])


# The first cut at which the walk comes up to the level, by the free boxes ahead of one of these begins
# or behind all stretches. Where the begins start, the walk must be below the level.
def risen_to(row, level, begins):
    for begin in begins:
        above = walk(row, begin) - level
        if above >= 0:
            return begin - above
    return level + 2 * ball_count(row)


def first_at(row, level):
    return risen_to(row, level, [begin for begin, length in row.stretches])


def partner(row, place):
    return partner_of_ball(row, place) if ball_at(row, place) else partner_of_free(row, place)


# From a ball to its partner there are as many free boxes as balls just where the walk is again what it was.
def partner_of_ball(row, place):
    return risen_to(row, walk(row, place), [begin for begin, length in row.stretches if begin > place]) - 1


# The same the other way round: the nearest ball on the left at which the walk is what it is behind the box.
def partner_of_free(row, place):
    level = walk(row, place) + 1
    for begin, length in reversed(row.stretches):
        above = walk(row, begin) - level
        if begin < place and above >= 0:
            return begin + above
    return None
