"""Readings and changes in a run: at an index or with a key that is any number from 0 on.

What can't be reached is told by None."""

from suresieves.doing import exchanged, pair_index, with_content


def content_of(run, t, sort):
    """The cells or pairs of table t, None if there is no such table of this sort."""
    tables = run[5]
    return tables[t][2] if t < len(tables) and tables[t][0] == sort else None


def changed_content(run, t, sort):
    """The cells or pairs of table t, None if there is no such table, or it may not be changed."""
    content = content_of(run, t, sort)
    return content if content is not None and run[5][t][1] == 1 else None


def read_byte(run, at, s):
    packet = run[4]
    return packet[at + s] if at + s < len(packet) else None


def read_pair(run, at, s):
    packet = run[4]
    return 256 * packet[at + s] + packet[at + s + 1] if at + s + 1 < len(packet) else None


def read_cell(run, index, t):
    cells = content_of(run, t, "array")
    return cells[index] if cells is not None and index < len(cells) else None


def read_find(run, key, t):
    pairs = content_of(run, t, "pairs")
    if pairs is None:
        return None
    index = pair_index(pairs, key)
    return 0 if index is None else index + 1


def read_value(run, handle, t):
    pairs = content_of(run, t, "pairs")
    return pairs[handle - 1][1] if pairs is not None and 1 <= handle <= len(pairs) else None


def put_byte(run, at, s, number):
    packet = run[4]
    if at + s >= len(packet) or run[9] == 0:
        return None
    return exchanged(run, 4, exchanged(packet, at + s, number & 255))


def put_cell(run, index, t, number):
    cells = changed_content(run, t, "array")
    if cells is None or index >= len(cells):
        return None
    return with_content(run, t, exchanged(cells, index, number & 65535))


def put_value(run, handle, t, number):
    pairs = changed_content(run, t, "pairs")
    if pairs is None or not 1 <= handle <= len(pairs):
        return None
    pair = (pairs[handle - 1][0], number & 65535)
    return with_content(run, t, exchanged(pairs, handle - 1, pair))


READ = {
    "byte": read_byte,
    "pair": read_pair,
    "cell": read_cell,
    "find": read_find,
    "value": read_value,
}

PUT = {
    "write": put_byte,
    "fill": put_cell,
    "change": put_value,
}


def reading(name, run, x, where):
    """The word that a reading tells, where being its s or t; None where it would fault."""
    read = READ[name]
    return read(run, x, where)


def changing(name, run, x, where, y):
    """The run behind a change, where being its s or t; None where it would fault."""
    if name == "grow":
        word = read_cell(run, x, where)
        return None if word is None else put_cell(run, x, where, word + 1)
    put = PUT[name]
    return put(run, x, where, y)
