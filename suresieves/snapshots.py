"""Snapshots: runs written line by line, and read back."""

from suresieves.errors import InvalidSnapshot
from suresieves.names import number_in
from suresieves.numberrows import headed_text, long_number_in, row_in, row_text, text_behind
from suresieves.packets import is_table
from suresieves.runs import FAULTS, need_run

# The lines of which a snapshot has just one, in their order; and where a run has what each of them tells.
HEADS = ("steps", "place", "end", "clock", "writable", "registers", "slots", "counters", "packet")
PARTS = (7, 3, 8, 6, 9, 0, 1, 2, 4)
MOST_TABLES = 6

# For each line of a number how great it is at most, and for each line of a row its numbers, how few, how many.
NUMBER_LINES = {"place": 120, "clock": 65535, "writable": 1}
ROW_LINES = {"registers": (65535, 8, 8), "slots": (65535, 16, 16), "counters": (100, 4, 4), "packet": (255, 0, 256)}
TABLE_HEADS = (("array", 0), ("array", 1), ("pairs", 0), ("pairs", 1))


def end_text(end):
    """An END, written."""
    return "none" if end is None else f"{end[0]} {end[1]}"


def table_text(table):
    """The line of a table."""
    sort, may, content = table
    numbers = content
    if sort == "pairs":
        numbers = [number for pair in content for number in pair]
    return headed_text(f"{sort} {may}:", row_text(numbers))


def snapshot_of(run):
    """The snapshot of a run that is right."""
    lines = []
    for head, part in zip(HEADS, PARTS):
        if head in ROW_LINES:
            text = row_text(run[part])
        else:
            text = end_text(run[part]) if head == "end" else str(run[part])
        lines.append(headed_text(head, text))
    lines.extend([table_text(table) for table in run[5]])
    return "\n".join(lines)


def end_in(text):
    """A tuple of the END that a text tells, None if it tells none."""
    if text == "none":
        return (None,)
    head, _, tail = text.partition(" ")
    if head == "answer":
        word = number_in(tail, 0, 65535)
        return None if word is None else (("answer", word),)
    return (("fault", tail),) if head == "fault" and tail in FAULTS else None


def numbers_in(text, most, least_many, most_many):
    """A tuple of the numbers up to most that a row tells, None if it is none, or has too few or too many."""
    numbers = row_in(text, most)
    if numbers is None or not least_many <= len(numbers) <= most_many:
        return None
    return (numbers,)


def part_in(head, line):
    """A tuple of what a line with this head tells, None if it is none such."""
    text = text_behind(head, line)
    if text is None:
        return None
    if head == "end":
        return end_in(text)
    if head in ROW_LINES:
        most, least_many, most_many = ROW_LINES[head]
        return numbers_in(text, most, least_many, most_many)
    number = long_number_in(text) if head == "steps" else number_in(text, 0, NUMBER_LINES[head])
    return None if number is None else (number,)


def pairs_of(numbers):
    """Keys and values in turn as pairs; what is left over stands alone."""
    return tuple([numbers[at:at + 2] for at in range(0, len(numbers), 2)])


def table_in(line):
    """The table that a line tells, None if it tells none."""
    for sort, may in TABLE_HEADS:
        text = text_behind(f"{sort} {may}:", line)
        numbers = None if text is None else row_in(text, 65535)
        if numbers is not None:
            table = (sort, may, numbers if sort == "array" else pairs_of(numbers))
            return table if is_table(table) else None
    return None


def run_told(parts, tables):
    """The run of what the lines tell, in their order."""
    steps, place, end, clock, writable, registers, slots, counters, packet = parts
    return registers, slots, counters, place, packet, tables, clock, steps, end, writable


def run_in(writing):
    """The run that a snapshot tells."""
    lines, parts, tables = writing.split("\n"), [], []
    for number, line in enumerate(lines):
        if number < len(HEADS):
            told = part_in(HEADS[number], line)
            if told is None:
                raise InvalidSnapshot(number)
            parts.append(told[0])
        else:
            table = table_in(line) if len(tables) < MOST_TABLES else None
            if table is None:
                raise InvalidSnapshot(number)
            tables.append(table)
    if len(parts) < len(HEADS):
        raise InvalidSnapshot(len(lines))
    return run_told(parts, tuple(tables))


def write_snapshot(run):
    """The snapshot of a run."""
    need_run(run)
    return snapshot_of(run)


def read_snapshot(writing):
    """The run that a snapshot tells."""
    if not isinstance(writing, str):
        raise InvalidSnapshot(None)
    return run_in(writing)
