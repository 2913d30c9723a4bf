"""Known values, states, sieves and runs drawn by chance, always the same for the same seed."""

from suresieves.inspector import flaws
from suresieves.known import is_known, is_so
from suresieves.runs import begun
from tests.randoms import word

OPS = ("add", "sub", "and", "or", "xor", "left", "right")
RELATIONS = ("same", "other", "below", "from", "bit", "nobit")
KINDS = (("array", 1, 4), ("pairs", 1, 3), ("array", 0, 8), ("pairs", 0, 1))
GRANT = (3, 12, 1, KINDS)
ARRAYS, PAIRS = (0, 2), (1, 3)


def stretch_around(chance, number, most):
    """A stretch (LOW, HIGH) up to most that has a number."""
    low = number - min(number, chance.choice((0, 0, 1, 2, 7, number, chance.randint(0, 99))))
    high = min(most, number + chance.choice((0, 0, 1, 2, 7, most, chance.randint(0, 99))))
    return low, high


def known_of(chance, x, run):
    """A known value that is so of a word in a run."""
    size = len(run[4])
    low, high = stretch_around(chance, x, 65535)
    mask = chance.choice((0, 0, 1, 3, 7, 15, 65280, 65535, chance.randint(0, 65535)))
    minus = size - x if 0 <= size - x <= 256 and chance.random() < 0.5 else None
    left = chance.randint(0, size - x) if x <= size and chance.random() < 0.5 else None
    handle = chance.choice((None, None, 1, 3))
    value = (low, high, mask, x & mask, minus, left, handle)
    if is_known(value) and is_so(value, x, run):
        return value
    return value[:6] + (None,)


def state_of_run(chance, run):
    """A known state that is so in a run."""
    registers = tuple(known_of(chance, x, run) for x in run[0])
    slots = tuple(known_of(chance, x, run) for x in run[1])
    counters = tuple(stretch_around(chance, count, 100) for count in run[2])
    return registers, slots, counters, stretch_around(chance, len(run[4]), 256)


def packet(chance, least, most):
    return tuple(chance.choice((0, 1, 2, 3, 255, chance.randint(0, 255))) for _ in range(chance.randint(least, most)))


def tables(chance, kinds=KINDS):
    """Tables of these kinds."""
    out = []
    for sort, may, size in kinds:
        if sort == "array":
            out.append((sort, may, tuple(word(chance) for _ in range(size))))
        else:
            keys = sorted(chance.sample(range(6), chance.randint(0, min(size, 6))))
            out.append((sort, may, tuple((key, word(chance)) for key in keys)))
    return tuple(out)


def beginning(chance, grant=GRANT):
    """A begun run that fits a grant."""
    return begun(packet(chance, grant[0], grant[1]), tables(chance, grant[3]), word(chance), grant[2])


def small(chance):
    return chance.choice((0, 0, 1, 1, 2, 3, 4, 5, 8, 12, 250, 65535, chance.randint(0, 65535)))


def midway(chance, grant=GRANT, place=0):
    """A run that has not ended, in the midst of what it does."""
    run = beginning(chance, grant)
    registers = tuple(small(chance) for _ in range(8))
    slots = tuple(small(chance) for _ in range(16))
    counters = tuple(chance.choice((0, 1, 2, 3, 99, 100)) for _ in range(4))
    return (registers, slots, counters, place) + run[4:7] + (chance.randint(0, 50),) + run[8:]


def straight_row(chance, hold=8):
    """A row that goes on to the place behind, of registers below hold."""
    a, b = chance.randrange(hold), chance.randrange(hold)
    pick = chance.randrange(16)
    if pick == 0:
        return ("set", a, small(chance))
    if pick == 1:
        return ("move", a, b)
    if pick == 2:
        return ("length", a)
    if pick in (3, 4):
        return (chance.choice(("take", "keep")), a, chance.randrange(3))
    if pick in (5, 6):
        return (chance.choice(OPS), a, b)
    if pick in (7, 8):
        op = chance.choice(OPS[:2] + OPS[2:5])
        return (("addn" if op == "sub" else op + "n"), a, small(chance))
    if pick == 9:
        return (chance.choice(("leftn", "rightn")), a, chance.randrange(16))
    if pick in (10, 11):
        return (chance.choice(("byte", "pair", "write")), a, b, chance.choice((0, 0, 1, 2, 3)))
    if pick == 12:
        return (chance.choice(("cell", "fill")), a, chance.choice((0, 0, 2)), b)
    if pick == 13:
        return ("count", 0, b)
    if pick == 14:
        return (chance.choice(("find", "value", "change")), a, chance.choice((1, 1, 3)), b)
    return ("ask", a, chance.choice(("clock", "ones", "mix")), b)


def guarded_rows(chance):
    """Rows that look ahead of reaching: a d that is None leads far away."""
    a, b, c = chance.sample(range(8), 3)
    s = chance.choice((0, 0, 1, 2))
    pick = chance.randrange(8)
    if pick == 0:
        return [("length", a), ("when", "from", b, a, None), (chance.choice(("byte", "write")), c, b, 0)]
    if pick == 1:
        return [("length", a), ("addn", a, 65536 - 1 - s), ("byte", b, a, 0), ("pair", c, a, s - 1 if s else 0)]
    if pick == 2:
        return [("length", a), ("whenn", "below", a, s + 4, None), ("set", b, 0), ("pair", c, b, s + 2)]
    if pick == 3:
        last = chance.choice((("value", c, 1, a), ("change", c, 1, a)))
        return [("find", a, 1, b), ("whenn", "same", a, 0, None), last]
    if pick == 4:
        return [("andn", a, 3), (chance.choice(("cell", "fill")), c, 0, a), ("count", 0, a)]
    if pick == 5:
        return [("whenn", "from", a, 4, None), ("count", 0, a), ("cell", b, 2, a)]
    if pick == 6:
        return [("length", a), ("sub", a, b), ("andn", a, 3), ("when", "nobit", a, b, None)]
    return [("when", chance.choice(RELATIONS), a, b, None), ("whenn", chance.choice(RELATIONS), a, small(chance), None)]


def body_rows(chance, many, counters):
    """Rows in so many pieces, with loops of the counters that are still free."""
    rows = []
    for _ in range(many):
        pick = chance.random()
        if pick < 0.25 and counters:
            counter, rest = counters[0], counters[1:]
            inner = body_rows(chance, chance.randint(0, 2), rest)
            times = chance.choice((1, 2, 3, 100 if not inner else 4))
            start = [("begin", counter)] if chance.random() < 0.8 else []
            rows.extend(start + inner + [("again", counter, times, ("back", len(inner)))])
            counters = counters if start else rest
        elif pick < 0.65:
            rows.extend(guarded_rows(chance))
        else:
            rows.append(straight_row(chance))
    return rows


def sieve(chance, pieces=4):
    """A sieve without flaws."""
    while True:
        rows = body_rows(chance, pieces, (0, 1, 2, 3))[:60]
        rows += [("answer", chance.randrange(8)), ("set", 0, 9), ("answer", 0)]
        out = []
        for place, row in enumerate(rows):
            if row[-1] is None:
                ahead = chance.choice((len(rows) - 2, min(len(rows) - 1, place + chance.randint(1, 5))))
                row = row[:-1] + (max(ahead, place + 1),)
            elif row[0] == "again":
                row = row[:-1] + (place - row[-1][1],)
            out.append(row)
        if not flaws(tuple(out)):
            return tuple(out)
