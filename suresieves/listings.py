"""Listings of sieves: laid, shown and read."""

from suresieves.checks import are_all, first_bad, is_tuple
from suresieves.errors import InvalidListing, InvalidWriting, NotLaid
from suresieves.lines import is_line, label_wanted, line_text, read_line
from suresieves.runs import need_sieve
from suresieves.tokens import line_words

MOST_LINES = 240
MOST_ROWS = 120


def is_listing(value):
    """Whether a value is a listing."""
    return are_all(value, 1, MOST_LINES, is_line)


def need_listing(listing):
    """Raise InvalidListing for what is no listing."""
    if not is_tuple(listing, 1, MOST_LINES):
        raise InvalidListing(None)
    wrong = first_bad(listing, is_line)
    if wrong is not None:
        raise InvalidListing(wrong)


def places_of(listing):
    """For each label how many rows stand ahead of it; and the first line whose label is given ahead."""
    places, twice, many = {}, None, 0
    for index, line in enumerate(listing):
        if line[0] != "label":
            many += 1
        elif line[1] not in places:
            places[line[1]] = many
        elif twice is None:
            twice = index
    return places, twice


def fault_in_laying(listing):
    """None if a listing can be laid, else a tuple of the index that NotLaid tells."""
    places, twice = places_of(listing)
    if twice is not None:
        return (twice,)
    for index, line in enumerate(listing):
        name = label_wanted(line)
        if name is not None and places.get(name, MOST_ROWS) >= MOST_ROWS:
            return (index,)
    many = len([line for line in listing if line[0] != "label"])
    return None if 1 <= many <= MOST_ROWS else (None,)


def can_be_laid(listing):
    """Whether a listing can be laid."""
    need_listing(listing)
    return fault_in_laying(listing) is None


def sieve_of(listing):
    """The sieve of a listing."""
    need_listing(listing)
    fault = fault_in_laying(listing)
    if fault is not None:
        raise NotLaid(fault[0])
    places, _ = places_of(listing)
    rows = []
    for line in listing:
        name = label_wanted(line)
        if name is not None:
            line = line[:-1] + (places[name],)
        if line[0] != "label":
            rows.append(line)
    return tuple(rows)


def listing_in(texts):
    """The listing that texts tell, line by line."""
    lines = []
    for number, text in enumerate(texts):
        if number == MOST_LINES:
            words = line_words(text)
            raise InvalidWriting(number, words[0][0] if words else len(text))
        lines.append(read_line(number, text))
    return tuple(lines)


def read_listing(writing):
    """The listing that a writing tells."""
    if not isinstance(writing, str):
        raise InvalidWriting(None, None)
    return listing_in(writing.split("\n"))


def show_listing(listing):
    """The writing of a listing."""
    need_listing(listing)
    return "\n".join([line_text(line) for line in listing])


def show_sieve(sieve):
    """The writing of a sieve, as the listing of its rows."""
    need_sieve(sieve)
    return "\n".join([line_text(row) for row in sieve])
