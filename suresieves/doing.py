"""What one row does in a run, and with which kind it faults.

Runs and rows are not checked here: who calls has done so."""

from suresieves.words import combined, mixed, ones_in, related


def exchanged(row, index, value):
    """A tuple with another value at an index."""
    return row[:index] + (value,) + row[index + 1:]


def pair_index(pairs, key):
    """The index of the pair with this key, None if there is none."""
    for index, pair in enumerate(pairs):
        if pair[0] == key:
            return index
    return None


def table_fault(row, run):
    """The kind with which a row that has a t faults, None if it does not."""
    head, t = row[0], row[-2]
    tables, word = run[5], run[0][row[-1]]
    sort = "array" if head in ("cell", "fill", "count") else "pairs"
    if t >= len(tables) or tables[t][0] != sort:
        return "table"
    if head in ("fill", "count", "change") and tables[t][1] == 0:
        return "table"
    many = len(tables[t][2])
    if sort == "array" and word >= many:
        return "index"
    if head in ("value", "change") and not 1 <= word <= many:
        return "handle"
    return None


def packet_fault(row, run):
    """The kind with which a row that reaches bytes faults, None if it does not."""
    head, last = row[0], run[0][row[2]] + row[3]
    if head == "pair":
        last += 1
    if last >= len(run[4]):
        return "packet"
    if head == "write" and run[9] == 0:
        return "grant"
    return None


def next_fault(sieve, run):
    """The kind with which the next step of a run without an END faults, None if it does not."""
    if run[3] >= len(sieve):
        return "place"
    row = sieve[run[3]]
    if row[0] in ("cell", "fill", "count", "find", "value", "change"):
        return table_fault(row, run)
    if row[0] in ("byte", "pair", "write"):
        return packet_fault(row, run)
    return None


def set_word(row, run):
    return row[2]


def moved_word(row, run):
    return run[0][row[2]]


def length_word(row, run):
    return len(run[4])


def taken_word(row, run):
    return run[1][row[2]]


def combined_word(row, run):
    return combined(row[0], run[0][row[1]], run[0][row[2]])


def combined_number(row, run):
    return combined(row[0][:-1], run[0][row[1]], row[2])


def byte_word(row, run):
    return run[4][run[0][row[2]] + row[3]]


def pair_word(row, run):
    at = run[0][row[2]] + row[3]
    return 256 * run[4][at] + run[4][at + 1]


def cell_word(row, run):
    return run[5][row[2]][2][run[0][row[3]]]


def found_word(row, run):
    index = pair_index(run[5][row[2]][2], run[0][row[3]])
    return 0 if index is None else index + 1


def value_word(row, run):
    return run[5][row[2]][2][run[0][row[3]] - 1][1]


def asked_word(row, run):
    if row[2] == "clock":
        return run[6]
    word = run[0][row[3]]
    return ones_in(word) if row[2] == "ones" else mixed(word)


# The rows that set a register, and what tells the word.
WORDS = {
    "set": set_word,
    "move": moved_word,
    "length": length_word,
    "take": taken_word,
    "add": combined_word,
    "sub": combined_word,
    "and": combined_word,
    "or": combined_word,
    "xor": combined_word,
    "left": combined_word,
    "right": combined_word,
    "addn": combined_number,
    "andn": combined_number,
    "orn": combined_number,
    "xorn": combined_number,
    "leftn": combined_number,
    "rightn": combined_number,
    "byte": byte_word,
    "pair": pair_word,
    "cell": cell_word,
    "find": found_word,
    "value": value_word,
    "ask": asked_word,
}


def with_content(run, t, content):
    """A run with other cells or pairs in table t."""
    table = exchanged(run[5][t], 2, content)
    return exchanged(run, 5, exchanged(run[5], t, table))


def kept(row, run):
    return exchanged(run, 1, exchanged(run[1], row[2], run[0][row[1]]))


def written(row, run):
    at = run[0][row[2]] + row[3]
    return exchanged(run, 4, exchanged(run[4], at, run[0][row[1]] & 255))


def filled(row, run):
    cells = run[5][row[2]][2]
    return with_content(run, row[2], exchanged(cells, run[0][row[3]], run[0][row[1]]))


def counted(row, run):
    cells, index = run[5][row[1]][2], run[0][row[2]]
    return with_content(run, row[1], exchanged(cells, index, (cells[index] + 1) & 65535))


def changed(row, run):
    pairs, index = run[5][row[2]][2], run[0][row[3]] - 1
    pair = (pairs[index][0], run[0][row[1]])
    return with_content(run, row[2], exchanged(pairs, index, pair))


def begun_again(row, run):
    return exchanged(run, 2, exchanged(run[2], row[1], 0))


# The rows that change something else, and what changes it.
CHANGES = {
    "keep": kept,
    "write": written,
    "fill": filled,
    "count": counted,
    "change": changed,
    "begin": begun_again,
}


def leads_to(row, run):
    """The place to which jump, when, whenn and again lead, None for the place behind."""
    registers = run[0]
    if row[0] == "jump":
        return row[1]
    if row[0] == "again":
        return row[3] if run[2][row[1]] < row[2] else None
    two = registers[row[3]] if row[0] == "when" else row[3]
    return row[4] if related(row[1], registers[row[2]], two) else None


def gone_on(row, run):
    """A run behind jump, when, whenn or again: the place, and again's counter."""
    place = leads_to(row, run)
    if place is None:
        return exchanged(run, 3, run[3] + 1)
    if row[0] == "again":
        counters = run[2]
        run = exchanged(run, 2, exchanged(counters, row[1], counters[row[1]] + 1))
    return exchanged(run, 3, place)


def done(row, run):
    """A run behind a row that does not fault, STEPS as they were."""
    head = row[0]
    if head in WORDS:
        tell = WORDS[head]
        registers = exchanged(run[0], row[1], tell(row, run))
        return (registers,) + run[1:3] + (run[3] + 1,) + run[4:]
    if head in CHANGES:
        change = CHANGES[head]
        return exchanged(change(row, run), 3, run[3] + 1)
    if head == "answer":
        return exchanged(run, 8, ("answer", run[0][row[1]]))
    return gone_on(row, run)


def stepped(sieve, run):
    """A run behind one step by a sieve."""
    if run[8] is not None:
        return run
    kind = next_fault(sieve, run)
    if kind is not None:
        run = exchanged(run, 8, ("fault", kind))
    else:
        run = done(sieve[run[3]], run)
    return exchanged(run, 7, run[7] + 1)
