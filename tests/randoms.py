"""Sources, packets and tables made by chance, always the same for the same seed."""

from suresieves.sources import is_source

OPS = ("add", "sub", "and", "or", "xor", "left", "right")
RELATIONS = ("same", "other", "below", "from", "bit", "nobit")
NAMES = ("a", "b", "x1", "write")
KINDS = (("array", 1, 3), ("pairs", 1, 4), ("array", 0, 1), ("pairs", 0, 0))
GRANT = (0, 16, 1, KINDS)
ARRAYS, CHANGED_ARRAYS, PAIRS, CHANGED_PAIRS = (0, 2), (0,), (1, 3), (1,)


def expression(chance, room):
    """An expression up to room deep, that GRANT serves."""
    pick = chance.random()
    if room == 1 or pick < 0.35:
        return chance.choice((
            ("number", chance.choice((0, 1, 2, 3, 7, 255, 65534, 65535))), ("number", chance.randint(0, 20)),
            ("name", chance.choice(NAMES)), ("length",), ("clock",),
        ))
    inner = expression(chance, room - 1)
    if pick < 0.6:
        return (chance.choice(OPS), inner, expression(chance, room - 1))
    if pick < 0.8:
        return (chance.choice(("byte", "pair", "ones", "mix")), inner)
    if pick < 0.9:
        return ("cell", chance.choice(ARRAYS), inner)
    return (chance.choice(("value", "has")), chance.choice(PAIRS), inner)


def condition(chance, room):
    pick = chance.random()
    if room == 1 or pick < 0.5:
        return (chance.choice(RELATIONS), expression(chance, 3), expression(chance, 3))
    if pick < 0.65:
        return ("not", condition(chance, room - 1))
    return (chance.choice(("both", "either")), condition(chance, room - 1), condition(chance, room - 1))


def statement(chance, room, repeats, rounds):
    pick = chance.random()
    if room > 0 and pick < 0.3:
        other = body(chance, room - 1, repeats, rounds) if chance.random() < 0.6 else ()
        return ("if", condition(chance, 3), body(chance, room - 1, repeats, rounds), other)
    if room > 0 and repeats < 4 and pick < 0.45:
        times = chance.choice([many for many in (1, 2, 3, 5) if many * rounds <= 50])
        return ("repeat", times, body(chance, room - 1, repeats + 1, rounds * times))
    if repeats > 0 and pick < 0.52:
        return ("leave",)
    if pick < 0.7:
        return ("let", chance.choice(NAMES), expression(chance, 3))
    if pick < 0.78:
        return ("write", expression(chance, 3), expression(chance, 3))
    if pick < 0.84:
        return ("fill", chance.choice(CHANGED_ARRAYS), expression(chance, 2), expression(chance, 3))
    if pick < 0.9:
        return ("count", chance.choice(CHANGED_ARRAYS), expression(chance, 2))
    if pick < 0.96:
        return ("change", chance.choice(CHANGED_PAIRS), expression(chance, 2), expression(chance, 3))
    return ("answer", expression(chance, 4))


def body(chance, room, repeats, rounds):
    return tuple(statement(chance, room, repeats, rounds) for _ in range(chance.choice((0, 1, 1, 2, 3))))


def source(chance):
    """A source that GRANT serves."""
    while True:
        told = body(chance, 4, 0, 1) + (("answer", expression(chance, 5)),)
        if is_source(told):
            return told


def word(chance):
    return chance.choice((0, 1, 2, 3, 7, 255, 65535, chance.randint(0, 65535)))


def packet(chance):
    return tuple(chance.choice((0, 1, 2, 3, 255, chance.randint(0, 255))) for _ in range(chance.randint(0, 16)))


def tables(chance):
    keys = sorted(chance.sample(range(8), chance.randint(0, 4)))
    return (
        ("array", 1, tuple(word(chance) for _ in range(3))),
        ("pairs", 1, tuple((key, word(chance)) for key in keys)),
        ("array", 0, (word(chance),)),
        ("pairs", 0, ()),
    )
