"""The inspector: which sieves are let by, and with which tables."""

from suresieves.checks import first_bad, is_tuple
from suresieves.errors import InvalidTable, NotTaken
from suresieves.known import is_known_state
from suresieves.loops import bound_in, flaws_in
from suresieves.packets import need_grant
from suresieves.runs import need_sieve
from suresieves.telling import first_open, is_table_taken, table_told

# The rows that may be shown not to fault, other than by where they lead.
REACHING = ("byte", "pair", "write", "cell", "fill", "count", "value", "change", "find")


def is_state_or_none(value):
    """Whether a value can stand in a table."""
    return value is None or is_known_state(value)


def need_table(table, sieve):
    """Raise InvalidTable for what is no table of a sieve."""
    if not is_tuple(table, len(sieve), len(sieve)):
        raise InvalidTable(None)
    wrong = first_bad(table, is_state_or_none)
    if wrong is not None:
        raise InvalidTable(wrong)


def does_take(sieve, grant, table):
    """Whether the judge takes a table, all arguments being right."""
    return not flaws_in(sieve) and is_table_taken(sieve, grant, table)


def places_sure(sieve, table):
    """The places of rows that a taken table shows not to fault, ascending."""
    return tuple([place for place, row in enumerate(sieve) if row[0] in REACHING and table[place] is not None])


def flaws(sieve):
    """All flaws of a sieve, ascending."""
    need_sieve(sieve)
    return flaws_in(sieve)


def steps_bound(sieve):
    """How many steps a sieve takes at most, None for one with flaws."""
    need_sieve(sieve)
    return None if flaws_in(sieve) else bound_in(sieve)


def told_table(sieve, grant):
    """The told table, None for a sieve with flaws."""
    need_sieve(sieve)
    need_grant(grant)
    return None if flaws_in(sieve) else table_told(sieve, grant)


def takes_table(sieve, grant, table):
    """Whether the judge takes a table."""
    need_sieve(sieve)
    need_grant(grant)
    need_table(table, sieve)
    return does_take(sieve, grant, table)


def verdict(sieve, grant):
    """What the inspector says of a sieve for a grant."""
    need_sieve(sieve)
    need_grant(grant)
    found = flaws_in(sieve)
    if found:
        return ("flaw",) + found[0]
    table = table_told(sieve, grant)
    opening = first_open(sieve, grant, table)
    if opening is not None:
        return ("open",) + opening
    return "let by", table, bound_in(sieve)


def sure_places(sieve, grant, table):
    """The places of rows that a taken table shows not to fault, ascending."""
    need_sieve(sieve)
    need_grant(grant)
    need_table(table, sieve)
    if not does_take(sieve, grant, table):
        raise NotTaken()
    return places_sure(sieve, table)
