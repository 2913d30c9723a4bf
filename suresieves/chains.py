"""Sieves joined into one."""

from suresieves.errors import TooMany
from suresieves.rows import goes_elsewhere
from suresieves.runs import need_sieve

MOST_ROWS = 120


def places_in(sieve, start, is_first):
    """Where each row of a sieve comes to stand, from start on; and the place behind all of them."""
    places, at = [], start
    for row in sieve:
        places.append(at)
        at += 2 if is_first and row[0] == "answer" else 1
    return places, at


def row_moved(row, place, places):
    """A row at a place of its sieve as it is in the joined one."""
    if not goes_elsewhere(row[0]):
        return row
    target = row[-1] if row[-1] < len(places) else place
    return row[:-1] + (places[target],)


def rows_between():
    """The rows that put all registers, slots and counters to 0."""
    rows = [("set", r, 0) for r in range(8)]
    rows.extend([("keep", 0, k) for k in range(16)])
    rows.extend([("begin", counter) for counter in range(4)])
    return rows


def rows_joined(first, second):
    """The rows of the joined sieve, however many, both sieves being right."""
    places, behind = places_in(first, 0, True)
    rows = []
    for place, row in enumerate(first):
        if row[0] == "answer":
            rows.append(("whenn", "same", row[1], 1, behind))
        rows.append(row_moved(row, place, places))
    rows.extend(rows_between())
    places, _ = places_in(second, len(rows), False)
    rows.extend([row_moved(row, place, places) for place, row in enumerate(second)])
    return tuple(rows)


def joined(first, second):
    """Two sieves joined into one."""
    need_sieve(first)
    need_sieve(second)
    rows = rows_joined(first, second)
    if len(rows) > MOST_ROWS:
        raise TooMany(len(rows))
    return rows
