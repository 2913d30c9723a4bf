"""Blocks: the rows from a place on that are done one after the other."""

from suresieves.checks import is_between
from suresieves.errors import InvalidNumber
from suresieves.runs import need_place, need_row, need_sieve

ENDERS = ("jump", "when", "whenn", "again", "answer")


def need_limit(limit):
    """Raise InvalidNumber for no whole number from 1 to 12."""
    if not is_between(limit, 1, 12):
        raise InvalidNumber(limit)


def does_end(row):
    """Whether a row ends a block, the row being right."""
    return row[0] in ENDERS


def rows_at(sieve, place, limit):
    """The rows of the block at a place, all arguments being right."""
    rows = ()
    for row in sieve[place:place + limit]:
        rows += (row,)
        if does_end(row):
            return rows
    return rows


def is_ender(row):
    """Whether a row ends a block."""
    need_row(row)
    return does_end(row)


def block_at(sieve, place, limit):
    """The rows of the block at a place, () if there is no such place."""
    need_sieve(sieve)
    need_place(place)
    need_limit(limit)
    return rows_at(sieve, place, limit)
