"""The told table of a sieve, and which tables the judge takes.

Sieves without flaws, grants and tables are not checked here: who calls has done so."""

from suresieves.facts import entry_state, is_state_within, joined_states, tightened
from suresieves.rowways import kind_open, ways_from

# From this round on what is joined on a way back is made wide.
WIDE_ROUND = 5


def widened_value(stood, joined):
    """A joined value made wide, beside what stood there."""
    low = 0 if joined[0] < stood[0] else joined[0]
    high = 65535 if joined[1] > stood[1] else joined[1]
    left = joined[5] if joined[5] == stood[5] else None
    return tightened((low, high) + joined[2:5] + (left, joined[6]))


def widened_values(stood, joined):
    return tuple([widened_value(one, two) for one, two in zip(stood, joined)])


def widened_stretch(stood, joined, widest):
    return joined if joined == stood else widest


def widened_state(stood, joined, grant):
    """A joined state made wide, beside what stood there."""
    counters = tuple([widened_stretch(one, two, (0, 100)) for one, two in zip(stood[2], joined[2])])
    length = widened_stretch(stood[3], joined[3], grant[:2])
    return widened_values(stood[0], joined[0]), widened_values(stood[1], joined[1]), counters, length


def met_state(stood, told, is_wide, grant):
    """What stands at a place behind a way that comes there."""
    if stood is None:
        return told
    joined = joined_states(stood, told)
    if joined == stood or not is_wide:
        return joined
    return widened_state(stood, joined, grant)


def go_round(sieve, grant, table, number):
    """Do one round with a table, a list, this being its number from 1 on."""
    for place, row in enumerate(sieve):
        if table[place] is None:
            continue
        ways = ways_from(row, place, table[place], grant)
        for target, told in ways:
            if target < len(sieve):
                is_wide = number >= WIDE_ROUND and target <= place
                table[target] = met_state(table[target], told, is_wide, grant)


def table_told(sieve, grant):
    """The told table."""
    table, number, before = [entry_state(grant)] + [None] * (len(sieve) - 1), 0, None
    while table != before:
        before = list(table)
        number += 1
        go_round(sieve, grant, table, number)
    return tuple(table)


def is_row_shown(sieve, grant, table, place):
    """Whether a row's state shows that it does not fault, and each of its ways is within the table."""
    row, state = sieve[place], table[place]
    if kind_open(row, place, state, grant, len(sieve)) is not None:
        return False
    for target, told in ways_from(row, place, state, grant):
        if table[target] is None or not is_state_within(told, table[target]):
            return False
    return True


def is_table_taken(sieve, grant, table):
    """Whether the judge takes a table of a sieve without flaws."""
    if table[0] is None or not is_state_within(entry_state(grant), table[0]):
        return False
    places = [place for place in range(len(sieve)) if table[place] is not None]
    return all(is_row_shown(sieve, grant, table, place) for place in places)


def first_open(sieve, grant, table):
    """(PLACE, KIND, STATE) of the first state that does not show that its row does not fault, None for none."""
    for place, state in enumerate(table):
        if state is not None:
            kind = kind_open(sieve[place], place, state, grant, len(sieve))
            if kind is not None:
                return place, kind, state
    return None
