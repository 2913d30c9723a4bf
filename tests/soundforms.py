"""Forms drawn by chance that come of no block: any effects, boundaries and ENDs that a form may have."""

from tests.drawn import OPS, RELATIONS, small

PLAIN = ("get", "slot", "number", "length", "clock", "one", "one", "do", "do", "do", "gone")
REACHING = ("byte", "pair", "cell", "find", "value", "write", "fill", "change", "grow")
SETTING = ("get", "slot", "number", "length", "clock", "one", "do", "byte", "pair", "cell", "find", "value")


def plain_effect(chance, values):
    head = chance.choice(PLAIN)
    if not values and head in ("one", "do"):
        head = "number"
    if head == "get":
        return ("get", chance.randrange(8))
    if head == "slot":
        return ("slot", chance.randrange(16))
    if head == "number":
        return ("number", chance.choice((small(chance), chance.randint(0, 101), 255, 15, 65535)))
    if head == "one":
        return ("one", chance.choice(("ones", "mix", "low")), chance.choice(values))
    if head == "do":
        return ("do", chance.choice(OPS), chance.choice(values), chance.choice(values))
    return (head,)


def reaching_effect(chance, values, row):
    head, x, sure = chance.choice(REACHING), chance.choice(values), chance.randint(0, 1)
    if head in ("byte", "pair"):
        return (head, x, chance.choice((0, 1, 2, 255)), row, sure)
    if head == "write":
        return (head, x, chance.choice((0, 1, 2, 255)), chance.choice(values), row, sure)
    t = chance.choice((0, 0, 2, 5)) if head in ("cell", "fill", "grow") else chance.choice((1, 1, 3, 4))
    if head in ("fill", "change"):
        return (head, x, t, chance.choice(values), row, sure)
    return (head, x, t, row, sure)


def effects(chance, many, most):
    """Effects of a form of many rows, up to most of them."""
    rows = [row for row in range(many) if chance.random() < 0.6]
    size = chance.randint(len(rows) + 1, max(most, len(rows) + 1))
    places = sorted(chance.sample(range(1, size), len(rows)))
    out, values = [], []
    for k in range(size):
        if k in places and values:
            out.append(reaching_effect(chance, values, rows[places.index(k)]))
        else:
            out.append(plain_effect(chance, values))
        if out[-1][0] in SETTING:
            values.append(k)
    return tuple(out)


def boundary(chance, told, number):
    """A boundary of a number, its values set in time."""
    due = [k for k, effect in enumerate(told) if effect[0] in REACHING and effect[-2] >= number]
    ahead = range(due[0] if due else len(told))
    values = [None] + [k for k in ahead if told[k][0] in SETTING]
    counts = [None, None] + [k for k in ahead if told[k][0] == "number" and told[k][1] <= 100]
    parts = [tuple(chance.choice(values) for _ in range(many)) for many in (8, 16)]
    return tuple(parts) + (tuple(chance.choice(counts) for _ in range(4)),)


def form(chance, most=20):
    """A form with up to so many effects."""
    many = chance.randint(1, 12)
    place = chance.choice((0, 120 - many, chance.randint(0, 120 - many)))
    told = effects(chance, many, most)
    left = [0, many] + [effect[-2] for effect in told if effect[0] in REACHING and effect[-1] == 0]
    boundaries = tuple(
        boundary(chance, told, number) if number in left or chance.random() < 0.5 else None for number in range(many + 1)
    )
    values = [k for k, effect in enumerate(told) if effect[0] in SETTING]
    ends = [("on",), ("jump", chance.randrange(120)), ("again", chance.randrange(4), chance.choice((1, 2, 100)), 119)]
    if values:
        ends += [("when", chance.choice(RELATIONS), chance.choice(values), chance.choice(values), chance.randrange(120)),
                 ("answer", chance.choice(values))] * 2
    return place, many, told, boundaries, chance.choice(ends)
