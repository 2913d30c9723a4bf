"""What a relation tells of two known values, and of the state in which they are known.

Values and states are not checked here: who calls has done so."""

from suresieves.doing import exchanged
from suresieves.facts import number_known, tightened
from suresieves.knownops import is_number, near_room


def narrowed(value, low, high):
    """A known value in another stretch, None if it is so of no word."""
    if low > high:
        return None
    return tightened((low, high) + value[2:])


def with_bits(value, mask, bits):
    """A known value with these bits known, too; None if it is so of no word."""
    if (value[3] ^ bits) & value[2] & mask != 0:
        return None
    return tightened(value[:2] + (value[2] | mask, value[3] | bits) + value[4:])


def with_left(value, room):
    """A known value with a LEFT that is at least this room, None being no room."""
    if room is None:
        return value
    left = min(room, 256)
    if value[5] is not None:
        left = max(left, value[5])
    return value[:5] + (left,) + value[6:]


def own_or_other(own, other):
    return other if own is None else own


def same_value(value, other):
    """A known value where it is the same as the other one."""
    minus, handle = own_or_other(value[4], other[4]), own_or_other(value[6], other[6])
    told = with_left(value[:4] + (minus, value[5], handle), other[5])
    low, high = max(value[0], other[0]), min(value[1], other[1])
    if low > high:
        return None
    return with_bits((low, high) + told[2:], other[2], other[3])


def other_value(value, other):
    """A known value where it is not the same as the other one."""
    low, high = value[:2]
    if is_number(other):
        if low == other[0]:
            low += 1
        if high == other[0]:
            high -= 1
    return narrowed(value, low, high)


def bit_value(value, other):
    """A known value where it has some bit in common with the other one."""
    number = other[0]
    if not is_number(other):
        return tightened(value)
    if number == 0:
        return None
    is_single = number & (number - 1) == 0
    return with_bits(value, number, number) if is_single else tightened(value)


def nobit_value(value, other):
    """A known value where it has no bit in common with the other one."""
    return with_bits(value, other[0], 0) if is_number(other) else tightened(value)


def below_values(one, two):
    room = near_room(two)
    if room is not None:
        room += 1
    lesser = narrowed(with_left(one, room), one[0], min(one[1], two[1] - 1))
    return lesser, narrowed(two, max(two[0], one[0] + 1), two[1])


def from_values(one, two):
    greater = narrowed(one, max(one[0], two[0]), one[1])
    return greater, narrowed(with_left(two, near_room(one)), two[0], min(two[1], one[1]))


# For the relations that are told in the same way from both sides, what they tell of one side.
SIDES = {
    "same": same_value,
    "other": other_value,
    "bit": bit_value,
    "nobit": nobit_value,
}


def related_values(relation, one, two):
    """The pair of both behind a relation, None if there is no way."""
    if relation == "below":
        pair = below_values(one, two)
    elif relation == "from":
        pair = from_values(one, two)
    else:
        tell = SIDES[relation]
        pair = (tell(one, two), tell(two, one))
    return None if pair[0] is None or pair[1] is None else pair


def length_beside(length, value):
    """LENGTH as the MINUS of a known value tells, None if nothing is left."""
    minus = value[4]
    if minus is None:
        return length
    low, high = max(length[0], value[0] + minus), min(length[1], value[1] + minus)
    return None if low > high else (low, high)


def state_with(state, told):
    """A state with other values in registers, pairs of a register and its value; None if no length is left."""
    registers, length = state[0], state[3]
    for a, value in told:
        if a is not None:
            registers = exchanged(registers, a, value)
        length = length_beside(length, value)
        if length is None:
            return None
    return (registers,) + state[1:3] + (length,)


def state_of_one(relation, state, a):
    """A state where a relation holds of a register and itself, None if there is no way."""
    if relation in ("same", "from"):
        return state
    if relation in ("other", "below"):
        return None
    told = related_values("other" if relation == "bit" else "same", state[0][a], number_known(0))
    return None if told is None else state_with(state, ((a, told[0]),))


def state_where(relation, row, state):
    """A state where a relation holds of what a row when or whenn looks at, None if there is no way."""
    a, b = row[2], row[3]
    if row[0] == "when" and a == b:
        return state_of_one(relation, state, a)
    if row[0] == "when":
        two = state[0][b]
    else:
        b, two = None, number_known(b)
    pair = related_values(relation, state[0][a], two)
    return None if pair is None else state_with(state, ((a, pair[0]), (b, pair[1])))
