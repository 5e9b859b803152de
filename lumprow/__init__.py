"""Lumprow: rows of boxes, balls, and the ferries that go along."""
