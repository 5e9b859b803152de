"""Thinning a row by layers, and thickening it.

A layer of thinning strikes one pair for each stretch: its last ball and the free box behind it.
"""

from lumprow.errors import TooMany
from lumprow.rows import MOST_STRETCHES, Row, ball_at, balls_below, gaps_of


def closes_at(row):
    return min([length for begin, length in row.stretches] + gaps_of(row), default=None)


# So many layers thicker, or, below nought, thinner by no more than the row closes at: so far each layer
# puts in or strikes one pair for each stretch, and each pair moves all that is behind it by two places.
def by_layers(row, layers):
    return [(stretch[0] + 2 * layers * ahead, stretch[1] + layers) for ahead, stretch in enumerate(row.stretches)]


# Pairs that are stretches but for two things: some may be without a ball, some without a gap between them.
def closed_up(pairs):
    stretches = []
    for begin, length in pairs:
        if stretches and sum(stretches[-1]) == begin:
            ahead = stretches.pop()
            stretches.append((ahead[0], ahead[1] + length))
        elif length > 0:
            stretches.append((begin, length))
    return stretches


def thinned(row, layers):
    left = Row(row.stretches)
    still = layers
    # Each round but the last one has fewer stretches than the one ahead of it.
    while still > 0 and left.stretches:
        at_once = min(still, closes_at(left))
        left = Row(closed_up(by_layers(left, -at_once)))
        still -= at_once
    return left


def thickened(row, layers):
    return Row(by_layers(row, layers))


def struck(row):
    left = thinned(row, 1)
    pairs = {}
    # The spots never fall from stretch to stretch, so the dict has them ascending.
    for ahead, stretch in enumerate(row.stretches):
        spot = sum(stretch) - 1 - 2 * ahead
        pairs[spot] = pairs.get(spot, 0) + 1
    return [(spot, number, owed_at(left, spot)) for spot, number in pairs.items()]


def owed_at(left, spot):
    return 1 if ball_at(left, spot - 1) and not ball_at(left, spot) else 0


def put_in(row, pairs):
    # Each pair put in ends one stretch; they are counted first, so that no number makes a long list.
    if len(row.stretches) + sum([number for spot, number in pairs]) > MOST_STRETCHES:
        raise TooMany("a row has at most 30 stretches")
    # One pair is owed at the end of each stretch.
    spots = [begin + length for begin, length in row.stretches]
    for spot, number in pairs:
        spots.extend([spot] * number)
    return Row(ended_at(row, sorted(spots)))


# Between two spots free boxes stand ahead of balls, for where a ball stands ahead of a free box is a spot:
# so the ball put in at the second spot makes one stretch with all balls from the first spot on.
def ended_at(row, spots):
    stretches = []
    counted = 0
    for ahead, spot in enumerate(spots):
        below = balls_below(row, spot)
        balls = below - counted
        stretches.append((spot + 2 * ahead - balls, balls + 1))
        counted = below
    return stretches
