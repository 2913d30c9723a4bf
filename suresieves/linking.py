"""Links, chains and packets that come: which values they are."""

from suresieves.checks import are_all, first_bad, is_tuple, is_word
from suresieves.errors import InvalidChain, InvalidComing
from suresieves.inspector import does_take, is_state_or_none
from suresieves.packets import is_grant, is_packet
from suresieves.runs import is_sieve

MOST_LINKS = 4
MOST_COMING = 50


def is_sound_link(value):
    """Whether a value is a link."""
    if not is_tuple(value, 3, 3):
        return False
    sieve, grant, table = value
    if not is_sieve(sieve) or not is_grant(grant):
        return False
    return are_all(table, len(sieve), len(sieve), is_state_or_none) and does_take(sieve, grant, table)


def is_arrival(value):
    """Whether a value is a pair (CLOCK, PACKET)."""
    return is_tuple(value, 2, 2) and is_word(value[0]) and is_packet(value[1])


def are_arrivals(value):
    """Whether a value is packets that come, as many as may wait."""
    return are_all(value, 0, MOST_COMING, is_arrival)


def is_chain(value):
    """Whether a value is a chain."""
    return are_all(value, 1, MOST_LINKS, is_sound_link)


def need_chain(chain):
    """Raise InvalidChain for what is no chain."""
    if not is_tuple(chain, 1, MOST_LINKS):
        raise InvalidChain(None)
    wrong = first_bad(chain, is_sound_link)
    if wrong is not None:
        raise InvalidChain(wrong)


def need_coming(coming):
    """Raise InvalidComing for what is no packets that come."""
    if not is_tuple(coming, 0, MOST_COMING):
        raise InvalidComing(None)
    wrong = first_bad(coming, is_arrival)
    if wrong is not None:
        raise InvalidComing(wrong)
