"""Rows: which words and fields each of them has."""

from suresieves.checks import is_between, is_one_of
from suresieves.words import CONDITIONS, HELPERS

# The fields behind a row's first word, in their order.
FIELDS = {
    "set": ("reg", "word"),
    "move": ("reg", "reg"),
    "length": ("reg",),
    "take": ("reg", "slot"),
    "keep": ("reg", "slot"),
    "add": ("reg", "reg"),
    "sub": ("reg", "reg"),
    "and": ("reg", "reg"),
    "or": ("reg", "reg"),
    "xor": ("reg", "reg"),
    "left": ("reg", "reg"),
    "right": ("reg", "reg"),
    "addn": ("reg", "word"),
    "andn": ("reg", "word"),
    "orn": ("reg", "word"),
    "xorn": ("reg", "word"),
    "leftn": ("reg", "shift"),
    "rightn": ("reg", "shift"),
    "byte": ("reg", "reg", "ahead"),
    "pair": ("reg", "reg", "ahead"),
    "write": ("reg", "reg", "ahead"),
    "cell": ("reg", "table", "reg"),
    "fill": ("reg", "table", "reg"),
    "count": ("table", "reg"),
    "find": ("reg", "table", "reg"),
    "value": ("reg", "table", "reg"),
    "change": ("reg", "table", "reg"),
    "ask": ("reg", "helper", "reg"),
    "jump": ("place",),
    "when": ("condition", "reg", "reg", "place"),
    "whenn": ("condition", "reg", "word", "place"),
    "begin": ("counter",),
    "again": ("counter", "times", "place"),
    "answer": ("reg",),
}

# From which number up to which one a field goes.
BOUNDS = {
    "reg": (0, 7),
    "word": (0, 65535),
    "shift": (0, 15),
    "slot": (0, 15),
    "ahead": (0, 255),
    "table": (0, 5),
    "counter": (0, 3),
    "times": (1, 100),
    "place": (0, 119),
}


def has_fields(value):
    """Whether a value is a tuple with a row's first word and as many fields as it has."""
    if not isinstance(value, tuple) or not value or not isinstance(value[0], str):
        return False
    return value[0] in FIELDS and len(value) == 1 + len(FIELDS[value[0]])


def is_field(kind, value):
    """Whether a value can stand in a field of this kind."""
    if kind == "condition":
        return is_one_of(value, CONDITIONS)
    if kind == "helper":
        return is_one_of(value, HELPERS)
    least, most = BOUNDS[kind]
    return is_between(value, least, most)


def is_row_form(value):
    """Whether a value is a row."""
    if not has_fields(value):
        return False
    return all(is_field(kind, part) for kind, part in zip(FIELDS[value[0]], value[1:]))


def goes_elsewhere(head):
    """Whether rows with this first word have a d, their last field."""
    return head in ("jump", "when", "whenn", "again")
