"""What comes of two known values, reckoned as words are.

Values are not checked here: who calls has done so."""

from suresieves.facts import number_known, tightened
from suresieves.words import combined, figures_from

ANY_WORD = (0, 65535, 0, 0, None, None, None)


def is_number(value):
    """Whether a known value is a number."""
    return value[0] == value[1]


def near_room(value):
    """The room of a known value by its LEFT and MINUS alone, None if it has neither."""
    rooms = [room for room in (value[5], value[4]) if room is not None]
    return max(rooms, default=None)


def greatest_room(one, two):
    """The greatest room of two known values by LEFT and MINUS alone, None if there is none."""
    rooms = [room for room in (near_room(one), near_room(two)) if room is not None]
    return max(rooms, default=None)


def lowest_bits(one, two):
    """The mask of the lowest bits, from the first on, that both masks have."""
    both = one & two
    return ((both + 1) & ~both) - 1


def shared_bits(op, one, two):
    """MASK and BITS of the lowest bits that both know."""
    mask = lowest_bits(one[2], two[2])
    return mask, combined(op, one[3], two[3]) & mask


def added_minus(one, two, least):
    """MINUS of a sum where at least so many bytes are known to be."""
    if one[4] is None or not is_number(two):
        return None
    if two[0] <= one[4]:
        return one[4] - two[0]
    minus = one[4] + 65536 - two[0]
    return minus if minus <= least else None


def added_left(one, two):
    """LEFT of a sum that stays a word."""
    rooms = []
    for value, other in ((one, two), (two, one)):
        room = near_room(value)
        if room is not None and room >= other[1]:
            rooms.append(room - other[1])
    return max(rooms, default=None)


def added(one, two, least):
    low, high, left = one[0] + two[0], one[1] + two[1], None
    if high <= 65535:
        left = added_left(one, two)
    elif low > 65535:
        low, high = low - 65536, high - 65536
    else:
        low, high = 0, 65535
    return (low, high) + shared_bits("add", one, two) + (added_minus(one, two, least), left, None)


def subtracted(one, two, least):
    """What comes of sub: a number is taken away by adding what it lacks to 65536."""
    if is_number(two):
        return added(one, number_known(-two[0] & 65535), least)
    low, high, left = one[0] - two[1], one[1] - two[0], None
    if low >= 0:
        room = near_room(one)
        left = None if room is None else min(room + two[0], 256)
    elif high < 0:
        low, high = low + 65536, high + 65536
    else:
        low, high = 0, 65535
    return (low, high) + shared_bits("sub", one, two) + (None, left, None)


def anded(one, two, least):
    noughts = one[2] & ~one[3] | two[2] & ~two[3]
    bits = one[3] & two[3]
    return 0, min(one[1], two[1]), noughts | bits, bits, None, greatest_room(one, two), None


def ored(one, two, least):
    noughts = one[2] & ~one[3] & two[2] & ~two[3]
    bits = one[3] | two[3]
    return max(one[0], two[0]), figures_from(max(one[1], two[1])), noughts | bits, bits, None, None, None


def xored(one, two, least):
    mask = one[2] & two[2]
    return 0, figures_from(max(one[1], two[1])), mask, (one[3] ^ two[3]) & mask, None, None, None


def shifted_left(one, two, least):
    if not is_number(two):
        return ANY_WORD
    k = two[0] & 15
    low, high = one[0] << k, one[1] << k
    if high > 65535:
        low, high = 0, 65535
    mask = (one[2] << k | (1 << k) - 1) & 65535
    return low, high, mask, one[3] << k & 65535, None, None, None


def shifted_right(one, two, least):
    left = near_room(one)
    if not is_number(two):
        return 0, one[1], 0, 0, None, left, None
    k = two[0] & 15
    mask = one[2] >> k | 65535 & ~(65535 >> k)
    return one[0] >> k, one[1] >> k, mask, one[3] >> k, None, left, None


# What each OP makes of two known values, not both of which are numbers.
MADE = {
    "add": added,
    "sub": subtracted,
    "and": anded,
    "or": ored,
    "xor": xored,
    "left": shifted_left,
    "right": shifted_right,
}


def reckoned_value(op, one, two, least):
    """The known value that OP makes of both where at least so many bytes are known to be."""
    if is_number(one) and is_number(two):
        return number_known(combined(op, one[0], two[0]))
    make = MADE[op]
    return tightened(make(one, two, least))
