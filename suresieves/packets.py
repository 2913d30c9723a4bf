"""Packets, tables and grants."""

from suresieves.checks import are_all, first_bad, is_between, is_flag, is_tuple, is_word
from suresieves.errors import InvalidGrant, InvalidNumber, InvalidPacket, InvalidTables


def is_byte(value):
    """Whether a value is a byte."""
    return is_between(value, 0, 255)


def is_packet(value):
    """Whether a value is a packet."""
    return are_all(value, 0, 256, is_byte)


def is_pair(value):
    """Whether a value is a pair (KEY, VALUE) of words."""
    return are_all(value, 2, 2, is_word)


def are_pairs(value):
    """Whether a value is a tuple of pairs, as a table has them."""
    if not are_all(value, 0, 16, is_pair):
        return False
    keys = [pair[0] for pair in value]
    return all(one < two for one, two in zip(keys, keys[1:]))


def is_headed(value):
    """Whether a value has the head that tables and kinds have: a sort, and MAY."""
    return is_tuple(value, 3, 3) and isinstance(value[0], str) and is_flag(value[1])


def is_table(value):
    """Whether a value is a table."""
    if not is_headed(value):
        return False
    if value[0] == "array":
        return are_all(value[2], 1, 32, is_word)
    return value[0] == "pairs" and are_pairs(value[2])


def are_tables(value):
    """Whether a value is tables."""
    return are_all(value, 0, 6, is_table)


def is_kind(value):
    """Whether a value is the kind of a table."""
    if not is_headed(value):
        return False
    if value[0] == "array":
        return is_between(value[2], 1, 32)
    return value[0] == "pairs" and is_between(value[2], 0, 16)


def is_grant(value):
    """Whether a value is a grant."""
    if not is_tuple(value, 4, 4):
        return False
    least, most, writable, kinds = value
    if not (is_between(least, 0, 256) and is_between(most, least, 256)):
        return False
    return is_flag(writable) and are_all(kinds, 0, 6, is_kind)


def need_packet(packet):
    """Raise InvalidPacket for what is no packet."""
    if not is_tuple(packet, 0, 256):
        raise InvalidPacket(None)
    wrong = first_bad(packet, is_byte)
    if wrong is not None:
        raise InvalidPacket(wrong)


def need_tables(tables):
    """Raise InvalidTables for what is no tables."""
    if not is_tuple(tables, 0, 6):
        raise InvalidTables(None)
    wrong = first_bad(tables, is_table)
    if wrong is not None:
        raise InvalidTables(wrong)


def need_grant(grant):
    """Raise InvalidGrant for what is no grant."""
    if not is_grant(grant):
        raise InvalidGrant(grant)


def need_writable(writable):
    """Raise InvalidNumber for what is none of 0 and 1."""
    if not is_flag(writable):
        raise InvalidNumber(writable)


def grant_for(packet, tables, writable):
    """The narrowest grant for a packet and tables."""
    need_packet(packet)
    need_tables(tables)
    need_writable(writable)
    kinds = tuple([(table[0], table[1], len(table[2])) for table in tables])
    return len(packet), len(packet), writable, kinds
