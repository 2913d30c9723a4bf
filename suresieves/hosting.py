"""The host at work: what its rows do, row by row.

Rows, hosts and runs are not checked here: who calls has done so."""

from suresieves.doing import exchanged
from suresieves.hostrows import HOST_OPS, MOST_NUMBER
from suresieves.reaching import changing, reading
from suresieves.words import ones_in


def host_number(op, one, two):
    """The number that comes of two numbers of the host."""
    if op == "add":
        return (one + two) & MOST_NUMBER
    if op == "sub":
        return (one - two) & MOST_NUMBER
    if op == "times":
        return (one * two) & MOST_NUMBER
    if op == "and":
        return one & two
    if op == "or":
        return one | two
    if op == "xor":
        return one ^ two
    if op == "left":
        return (one << (two & 31)) & MOST_NUMBER
    if op == "right":
        return one >> (two & 31)
    if op == "same":
        return 1 if one == two else 0
    if op == "below":
        return 1 if one < two else 0
    return ones_in(one & two)


def done_inside(row, host):
    """The HOST behind a row that takes and gives cells and boxes alone."""
    cells, boxes = host
    head, into, source = row[0], row[1], row[2]
    if head == "keep":
        return cells, exchanged(boxes, into, cells[source])
    if head == "set":
        number = source
    elif head == "move":
        number = cells[source]
    elif head == "take":
        number = boxes[source]
    else:
        number = host_number(head, cells[source], cells[row[3]])
    return exchanged(cells, into, number), boxes


def done_reaching(row, host, run):
    """(HOST, RUN, whether it was reached) behind a row that reads or changes."""
    cells, boxes = host
    head = row[0]
    if head in ("write", "fill", "change"):
        behind = changing(head, run, cells[row[1]], row[2], cells[row[3]])
    elif head == "grow":
        behind = changing(head, run, cells[row[1]], row[2], None)
    else:
        word = reading(head, run, cells[row[2]], row[3])
        number = 0 if word is None else word
        return (exchanged(cells, row[1], number), boxes), run, word is not None
    return (host, run, False) if behind is None else (host, behind, True)


def host_gone(translation, host, run, most):
    """(HOST, RUN, x) where a translation that is gone through from a HOST is left."""
    rows, index, x = translation[0], 0, None
    while x is None:
        row = rows[index]
        index += 1
        head = row[0]
        if head == "leave":
            x = row[1]
        elif head == "most":
            x = row[2] if most <= row[1] else None
        elif head == "skip":
            index += row[2] if host[0][row[1]] != 0 else 0
        elif head in HOST_OPS or head in ("set", "move", "take", "keep"):
            host = done_inside(row, host)
        else:
            behind, run, is_reached = done_reaching(row, host, run)
            if is_reached or row[-1] is None:
                host = behind
            else:
                x = row[-1]
    return host, run, x
