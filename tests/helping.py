"""What several tests need: asking for a refusal, and rows told box by box."""

import unittest

from lumprow import errors
from lumprow.rows import Row

GREATEST = 10 ** 60 - 1


class RefusalCase(unittest.TestCase):
    def refused(self, kind, call, *told):
        """Asserts that the call is refused by this very class, and gives the refusal back."""
        with self.assertRaises(errors.LumpError) as caught:
            call(*told)
        self.assertIs(type(caught.exception), kind)
        self.assertIsInstance(caught.exception, ValueError)
        return caught.exception

    def refused_at(self, kind, at, call, *told):
        self.assertEqual(self.refused(kind, call, *told).at, at)

    def told_alike_again(self, call, *told):
        """Asserts that a told list is the asker's own: spoiled, it is told as before."""
        first = call(*told)
        self.assertIs(type(first), list)
        kept = list(first)
        first.append("spoiled")
        first.reverse()
        self.assertEqual(call(*told), kept)


def spaced(count, begin=0, step=2):
    """So many pairs of length 1, with gaps of step - 1."""
    return [(begin + step * k, 1) for k in range(count)]


def small_rows(boxes):
    """Each set of places from 0 to boxes - 1, beside its row, made without row_of_balls."""
    for bits in range(1 << boxes):
        places = {k for k in range(boxes) if bits >> k & 1}
        begins = sorted(p for p in places if p - 1 not in places)
        ends = sorted(p + 1 for p in places if p + 1 not in places)
        yield places, Row([(begin, end - begin) for begin, end in zip(begins, ends)])
