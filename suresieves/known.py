"""What is known in part: of words, and of runs."""

from suresieves.checks import are_all, is_between, is_stretch, is_tuple, is_word
from suresieves.errors import InvalidKnown, InvalidNumber, InvalidState
from suresieves.facts import entry_state, is_so_of, is_state_so, is_state_within, joined_states
from suresieves.facts import known_room, tightened
from suresieves.packets import need_grant
from suresieves.runs import need_run
from suresieves.words import need_word


def is_none_or(value, most):
    """Whether a value is None or a number from 0 up to most."""
    return value is None or is_between(value, 0, most)


def is_known(value):
    """Whether a value is a known value."""
    if not is_tuple(value, 7, 7) or not are_all(value[:4], 4, 4, is_word):
        return False
    low, high, mask, bits, minus, left, handle = value
    if low > high or bits & ~mask != 0:
        return False
    if not (is_none_or(minus, 256) and is_none_or(left, 256) and is_none_or(handle, 5)):
        return False
    return tightened(value) is not None


def is_counter_stretch(value):
    """Whether a value is what can be known of a counter."""
    return is_stretch(value, 100)


def is_known_state(value):
    """Whether a value is a known state."""
    if not is_tuple(value, 4, 4):
        return False
    registers, slots, counters, length = value
    if not (are_all(registers, 8, 8, is_known) and are_all(slots, 16, 16, is_known)):
        return False
    return are_all(counters, 4, 4, is_counter_stretch) and is_stretch(length, 256)


def need_known(value):
    """Raise InvalidKnown for what is no known value."""
    if not is_known(value):
        raise InvalidKnown(value)


def need_state(value):
    """Raise InvalidState for what is no known state."""
    if not is_known_state(value):
        raise InvalidState(value)


def need_least(least):
    """Raise InvalidNumber for no whole number from 0 to 256."""
    if not is_between(least, 0, 256):
        raise InvalidNumber(least)


def is_so(known, word, run):
    """Whether a known value is so of a word in a run."""
    need_known(known)
    need_word(word)
    need_run(run)
    return is_so_of(known, word, run)


def tight(known):
    """A known value made tight."""
    need_known(known)
    return tightened(known)


def room_of(known, least):
    """The room of a known value where at least so many bytes are known to be."""
    need_known(known)
    need_least(least)
    return known_room(known, least)


def join(state, other):
    """The join of two known states."""
    need_state(state)
    need_state(other)
    return joined_states(state, other)


def is_within(state, other):
    """Whether the first known state is within the other one."""
    need_state(state)
    need_state(other)
    return is_state_within(state, other)


def are_so(state, run):
    """Whether a known state is so in a run."""
    need_state(state)
    need_run(run)
    return is_state_so(state, run)


def entry(grant):
    """The known state of all runs that fit a grant, where they begin."""
    need_grant(grant)
    return entry_state(grant)
