"""Rows of records, as callers hand them in."""

from keeproom.errors import RowError
from keeproom.numbers import read_number


def read_row(row, names):
    """The records of a row, with pairs in place of the texts of their numbers."""
    records = []
    for at, (name, text) in enumerate(row):
        number = read_number(text)
        if name not in names or number is None:
            raise RowError(at)
        records.append((name, number))
    return records
