"""Rows, sieves and runs: the plain machine."""

from suresieves.checks import are_all, first_bad, is_between, is_flag, is_from_nought, is_one_of, is_tuple
from suresieves.checks import is_word
from suresieves.doing import next_fault, stepped
from suresieves.errors import InvalidName, InvalidNumber, InvalidRow, InvalidRun, InvalidSieve
from suresieves.packets import are_tables, is_packet, need_grant, need_packet, need_tables
from suresieves.packets import need_writable
from suresieves.rows import is_row_form
from suresieves.words import combined, is_condition_word, is_op, need_word, related

FAULTS = ("place", "table", "index", "handle", "packet", "grant")
MOST_STEPS = 20000


def is_row(value):
    """Whether a value is a row."""
    return is_row_form(value)


def is_sieve(value):
    """Whether a value is a sieve."""
    return are_all(value, 1, 120, is_row)


def is_count(value):
    """Whether a value is what a counter can tell."""
    return is_between(value, 0, 100)


def is_end(value):
    """Whether a value is the END of a run."""
    if value is None:
        return True
    if not is_tuple(value, 2, 2) or not isinstance(value[0], str):
        return False
    if value[0] == "answer":
        return is_word(value[1])
    return value[0] == "fault" and is_one_of(value[1], FAULTS)


def run_parts(value):
    """For each element of a tuple of ten, whether it is right in a run."""
    return (
        are_all(value[0], 8, 8, is_word),
        are_all(value[1], 16, 16, is_word),
        are_all(value[2], 4, 4, is_count),
        is_between(value[3], 0, 120),
        is_packet(value[4]),
        are_tables(value[5]),
        is_word(value[6]),
        is_from_nought(value[7]),
        is_end(value[8]),
        is_flag(value[9]),
    )


def is_run(value):
    """Whether a value is a run."""
    return is_tuple(value, 10, 10) and all(run_parts(value))


def need_sieve(sieve):
    """Raise InvalidSieve for what is no sieve."""
    if not is_tuple(sieve, 1, 120):
        raise InvalidSieve(None)
    wrong = first_bad(sieve, is_row)
    if wrong is not None:
        raise InvalidSieve(wrong)


def need_row(row):
    """Raise InvalidRow for what is no row."""
    if not is_row(row):
        raise InvalidRow(row)


def need_place(place):
    """Raise InvalidNumber for no whole number from 0 to 119."""
    if not is_between(place, 0, 119):
        raise InvalidNumber(place)


def need_run(run):
    """Raise InvalidRun for what is no run."""
    if not is_tuple(run, 10, 10):
        raise InvalidRun(None)
    for index, is_right in enumerate(run_parts(run)):
        if not is_right:
            raise InvalidRun(index)


def need_steps(steps):
    """Raise InvalidNumber for no whole number from 0 to 20000."""
    if not is_between(steps, 0, MOST_STEPS):
        raise InvalidNumber(steps)


def begun_run(packet, tables, clock, writable):
    """The begun run, all arguments being right."""
    return (0,) * 8, (0,) * 16, (0,) * 4, 0, packet, tables, clock, 0, None, writable


def begun(packet, tables, clock, writable):
    """The begun run."""
    need_packet(packet)
    need_tables(tables)
    need_word(clock)
    need_writable(writable)
    return begun_run(packet, tables, clock, writable)


def is_begun(run):
    """Whether a run is begun."""
    numbers = run[0] + run[1] + run[2] + (run[3], run[7])
    return not any(numbers) and run[8] is None


def is_of_kind(table, kind):
    """Whether a table is of the kind that a grant tells, with its MAY."""
    if table[:2] != kind[:2]:
        return False
    if table[0] == "array":
        return len(table[2]) == kind[2]
    return len(table[2]) <= kind[2]


def does_fit(grant, run):
    """Whether a run is begun and fits a grant, both being right."""
    least, most, writable, kinds = grant
    if not is_begun(run) or not least <= len(run[4]) <= most:
        return False
    if run[9] != writable or len(run[5]) != len(kinds):
        return False
    return all(is_of_kind(table, kind) for table, kind in zip(run[5], kinds))


def fits(grant, run):
    """Whether a run is begun and fits a grant."""
    need_grant(grant)
    need_run(run)
    return does_fit(grant, run)


def run_far(sieve, run, steps):
    """A run behind so many steps, all arguments being right."""
    left = steps
    while left > 0 and run[8] is None:
        run = stepped(sieve, run)
        left -= 1
    return run


def one_step(sieve, run):
    """The run behind one step."""
    need_sieve(sieve)
    need_run(run)
    return stepped(sieve, run)


def run_on(sieve, run, steps):
    """The run behind so many steps."""
    need_sieve(sieve)
    need_run(run)
    need_steps(steps)
    return run_far(sieve, run, steps)


def fault_of(sieve, run):
    """The KIND with which the next step would fault, None if it would not."""
    need_sieve(sieve)
    need_run(run)
    return None if run[8] is not None else next_fault(sieve, run)


def answer_of(sieve, run):
    """The END behind up to 20000 steps, None if there is none by then."""
    need_sieve(sieve)
    need_run(run)
    return run_far(sieve, run, MOST_STEPS)[8]


def reckoned(op, one, two):
    """The word that comes of two words."""
    if not is_op(op):
        raise InvalidName(op)
    need_word(one)
    need_word(two)
    return combined(op, one, two)


def does_hold(condition, one, two):
    """Whether a condition holds of two words."""
    if not is_condition_word(condition):
        raise InvalidName(condition)
    need_word(one)
    need_word(two)
    return related(condition, one, two)
