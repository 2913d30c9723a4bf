"""Known values and states, made tight, joined and compared.

A known value is (LOW, HIGH, MASK, BITS, MINUS, LEFT, HANDLE); values and states
are not checked here: who calls has done so."""


def number_known(number):
    """The known value that is just this number."""
    return number, number, 65535, number, None, None, None


def least_fitting(start, mask, bits):
    """The least word from start on that has these bits at the mask, None if there is none."""
    if start & mask == bits:
        return start
    for k in range(16):
        above = start >> (k + 1) << (k + 1)
        raised = above | (1 << k)
        fixed = mask >> k << k
        if start >> k & 1 == 0 and raised & fixed == bits & fixed:
            # Above the bit that is raised the bits are there; below it nothing else has to be.
            return raised | bits
    return None


def greatest_fitting(end, mask, bits):
    """The greatest word up to end that has these bits at the mask, None if there is none."""
    mirrored = least_fitting(65535 - end, mask, mask & ~bits)
    return None if mirrored is None else 65535 - mirrored


def agreed_bits(low, high):
    """The mask of the highest bits in which two words agree, down to the first in which they don't."""
    apart = (low ^ high).bit_length()
    return 65535 >> apart << apart


def tightened(value):
    """A tuple of seven made tight, None if it is so of no word."""
    low, high, mask, bits = value[:4]
    low, high = least_fitting(low, mask, bits), greatest_fitting(high, mask, bits)
    if low is None or high is None or low > high:
        return None
    agreed = agreed_bits(low, high)
    return (low, high, mask | agreed, bits | low & agreed) + value[4:]


def known_room(value, least):
    """The room of a known value where at least so many bytes are known to be, None for none."""
    rooms = [room for room in (value[5], value[4]) if room is not None]
    if value[1] <= least:
        rooms.append(least - value[1])
    return max(rooms, default=None)


def joined_handle(one, two):
    """The HANDLE of the join of two known values."""
    if one[6] == two[6] or two[1] == 0:
        return one[6]
    return two[6] if one[1] == 0 else None


def joined_values(one, least_one, two, least_two):
    """The join of two known values, each with the bytes that are at least known to be."""
    mask = one[2] & two[2] & ~(one[3] ^ two[3])
    rooms = (known_room(one, least_one), known_room(two, least_two))
    left = None if rooms[0] is None or rooms[1] is None else min(rooms[0], rooms[1], 256)
    minus = one[4] if one[4] == two[4] else None
    low, high = joined_stretches(one[:2], two[:2])
    return tightened((low, high, mask, one[3] & mask, minus, left, joined_handle(one, two)))


def joined_stretches(one, two):
    """The least LOW and the greatest HIGH."""
    return min(one[0], two[0]), max(one[1], two[1])


def joined_rows(ones, least_one, twos, least_two):
    """The joins of known values, one by one."""
    return tuple([joined_values(one, least_one, two, least_two) for one, two in zip(ones, twos)])


def joined_states(state, other):
    """The join of two known states."""
    least_one, least_two = state[3][0], other[3][0]
    registers = joined_rows(state[0], least_one, other[0], least_two)
    slots = joined_rows(state[1], least_one, other[1], least_two)
    counters = tuple([joined_stretches(one, two) for one, two in zip(state[2], other[2])])
    return registers, slots, counters, joined_stretches(state[3], other[3])


def is_stretch_within(one, two):
    """Whether one stretch is within another one."""
    return two[0] <= one[0] and one[1] <= two[1]


def is_value_within(one, two, least):
    """Whether one known value is within another one, at least so many bytes being known for the first."""
    if not is_stretch_within(one[:2], two[:2]):
        return False
    if two[2] & ~one[2] != 0 or (one[3] ^ two[3]) & two[2] != 0:
        return False
    if two[4] is not None and two[4] != one[4]:
        return False
    if two[6] is not None and two[6] != one[6] and one[1] != 0:
        return False
    room = known_room(one, least)
    return two[5] is None or (room is not None and two[5] <= room)


def is_state_within(state, other):
    """Whether one known state is within another one."""
    least = state[3][0]
    for one, two in zip(state[2] + (state[3],), other[2] + (other[3],)):
        if not is_stretch_within(one, two):
            return False
    for one, two in zip(state[0] + state[1], other[0] + other[1]):
        if not is_value_within(one, two, least):
            return False
    return True


def is_so_of(value, word, run):
    """Whether a known value is so of a word in a run."""
    low, high, mask, bits, minus, left, handle = value
    size = len(run[4])
    if not low <= word <= high or word & mask != bits:
        return False
    if minus is not None and word != size - minus:
        return False
    if left is not None and word + left > size:
        return False
    return handle is None or word == 0 or is_handle_so(handle, word, run[5])


def is_handle_so(t, word, tables):
    """Whether there are pairs t, and word is up to how many it has."""
    return t < len(tables) and tables[t][0] == "pairs" and word <= len(tables[t][2])


def is_state_so(state, run):
    """Whether a known state is so in a run."""
    for (low, high), count in zip(state[2] + (state[3],), run[2] + (len(run[4]),)):
        if not low <= count <= high:
            return False
    for value, word in zip(state[0] + state[1], run[0] + run[1]):
        if not is_so_of(value, word, run):
            return False
    return True


def entry_state(grant):
    """What is known where every run begins that fits a grant."""
    nought = number_known(0)
    return (nought,) * 8, (nought,) * 16, ((0, 0),) * 4, grant[:2]
