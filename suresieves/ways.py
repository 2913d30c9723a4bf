"""What rows make of what is known."""

from suresieves.checks import is_between
from suresieves.errors import InvalidName, InvalidNumber
from suresieves.known import need_known, need_least, need_state
from suresieves.knownops import reckoned_value
from suresieves.knownrelations import related_values
from suresieves.packets import need_grant
from suresieves.rowways import kind_open, ways_from
from suresieves.runs import need_place, need_row
from suresieves.words import is_condition_word, is_op


def reckoned_known(op, one, two, least):
    """The known value that OP makes of both where at least so many bytes are known to be."""
    if not is_op(op):
        raise InvalidName(op)
    need_known(one)
    need_known(two)
    need_least(least)
    return reckoned_value(op, one, two, least)


def related_known(relation, one, two):
    """The pair of both known values behind a relation, None if there is no way."""
    if not is_condition_word(relation):
        raise InvalidName(relation)
    need_known(one)
    need_known(two)
    return related_values(relation, one, two)


def ways_of(row, place, state, grant):
    """The ways of a row from a known state: pairs of a place and a known state."""
    need_row(row)
    need_place(place)
    need_state(state)
    need_grant(grant)
    return ways_from(row, place, state, grant)


def open_kind(row, place, state, grant, many):
    """None if a state shows that a row of a sieve of many rows does not fault, else the first kind."""
    need_row(row)
    need_place(place)
    need_state(state)
    need_grant(grant)
    if not is_between(many, 1, 120):
        raise InvalidNumber(many)
    return kind_open(row, place, state, grant, many)
