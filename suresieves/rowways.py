"""Where rows lead from a known state, and whether it shows that they do not fault.

Rows, states and grants are not checked here: who calls has done so."""

from suresieves.doing import exchanged
from suresieves.facts import known_room, number_known, tightened
from suresieves.knownops import ANY_WORD, is_number, reckoned_value
from suresieves.knownrelations import state_where
from suresieves.words import mixed, opposite


def known_stretch(low, high, minus, handle):
    """The known value of the words from low to high, made tight."""
    return tightened((low, high, 0, 0, minus, None, handle))


def set_known(row, state, grant):
    return number_known(row[2])


def moved_known(row, state, grant):
    return state[0][row[2]]


def taken_known(row, state, grant):
    return state[1][row[2]]


def length_known(row, state, grant):
    return known_stretch(state[3][0], state[3][1], 0, None)


def combined_known(row, state, grant):
    return reckoned_value(row[0], state[0][row[1]], state[0][row[2]], state[3][0])


def combined_number_known(row, state, grant):
    return reckoned_value(row[0][:-1], state[0][row[1]], number_known(row[2]), state[3][0])


def byte_known(row, state, grant):
    return known_stretch(0, 255, None, None)


def any_known(row, state, grant):
    return ANY_WORD


def found_known(row, state, grant):
    t, kinds = row[2], grant[3]
    room = kinds[t][2] if is_sort(kinds, t, "pairs") else 0
    return known_stretch(0, room, None, t)


def asked_known(row, state, grant):
    helper, value = row[2], state[0][row[3]]
    if helper == "ones":
        return known_stretch(0, value[1].bit_length(), None, None)
    if helper == "mix" and is_number(value):
        return number_known(mixed(value[0]))
    return ANY_WORD


# The rows that set a register, and what is known of it then.
KNOWN = {
    "set": set_known,
    "move": moved_known,
    "length": length_known,
    "take": taken_known,
    "add": combined_known,
    "sub": combined_known,
    "and": combined_known,
    "or": combined_known,
    "xor": combined_known,
    "left": combined_known,
    "right": combined_known,
    "addn": combined_number_known,
    "andn": combined_number_known,
    "orn": combined_number_known,
    "xorn": combined_number_known,
    "leftn": combined_number_known,
    "rightn": combined_number_known,
    "byte": byte_known,
    "pair": any_known,
    "cell": any_known,
    "find": found_known,
    "value": any_known,
    "ask": asked_known,
}


def is_sort(kinds, t, sort):
    """Whether a grant's kinds have one of a sort at t."""
    return t < len(kinds) and kinds[t][0] == sort


def state_behind(row, state, grant):
    """The state behind a row that goes on to the place behind."""
    registers, slots, counters, length = state
    if row[0] in KNOWN:
        tell = KNOWN[row[0]]
        registers = exchanged(registers, row[1], tell(row, state, grant))
    elif row[0] == "keep":
        slots = exchanged(slots, row[2], registers[row[1]])
    elif row[0] == "begin":
        counters = exchanged(counters, row[1], (0, 0))
    return registers, slots, counters, length


def with_counter(state, counter, low, high):
    return state[:2] + (exchanged(state[2], counter, (low, high)),) + state[3:]


def ways_again(row, place, state):
    _, counter, times, d = row
    low, high = state[2][counter]
    ways = ()
    if high >= times:
        ways += ((place + 1, with_counter(state, counter, max(low, times), high)),)
    if low < times:
        ways += ((d, with_counter(state, counter, low + 1, min(high, times - 1) + 1)),)
    return ways


def ways_when(row, place, state):
    ways = ()
    for relation, target in ((opposite(row[1]), place + 1), (row[1], row[4])):
        told = state_where(relation, row, state)
        if told is not None:
            ways += ((target, told),)
    return ways


def ways_from(row, place, state, grant):
    """The ways of a row at a place: pairs of a place and a state."""
    head = row[0]
    if head == "answer":
        return ()
    if head == "jump":
        return ((row[1], state),)
    if head == "again":
        return ways_again(row, place, state)
    if head in ("when", "whenn"):
        return ways_when(row, place, state)
    return ((place + 1, state_behind(row, state, grant)),)


def table_open(row, state, kinds):
    """The kind with which a row that has a t may fault, None if it is known not to."""
    head, t = row[0], row[-2]
    value = state[0][row[-1]]
    sort = "array" if head in ("cell", "fill", "count") else "pairs"
    if not is_sort(kinds, t, sort):
        return "table"
    if head in ("fill", "count", "change") and kinds[t][1] == 0:
        return "table"
    if sort == "array" and value[1] >= kinds[t][2]:
        return "index"
    if head in ("value", "change") and (value[6] != t or value[0] < 1):
        return "handle"
    return None


def packet_open(row, state, writable):
    """The kind with which a row that reaches bytes may fault, None if it is known not to."""
    head, _, b, s = row
    room = known_room(state[0][b], state[3][0])
    if room is None or room < s + (2 if head == "pair" else 1):
        return "packet"
    return "grant" if head == "write" and writable == 0 else None


def kind_open(row, place, state, grant, many):
    """The first kind with which a row of a sieve of many rows may fault, None if it is known not to."""
    kind = None
    if row[0] in ("cell", "fill", "count", "find", "value", "change"):
        kind = table_open(row, state, grant[3])
    elif row[0] in ("byte", "pair", "write"):
        kind = packet_open(row, state, grant[2])
    if kind is None and any(target >= many for target, _ in ways_from(row, place, state, grant)):
        kind = "place"
    return kind
