"""Rows, spots, exits and translations of the host: which values they are."""

from suresieves.checks import are_all, is_between, is_one_of, is_tuple, is_word

MOST_NUMBER = 4294967295
CELLS = 12
BOXES = 112
HOST_OPS = ("add", "sub", "times", "and", "or", "xor", "left", "right", "same", "below", "ones")
REASONS = ("end", "fault", "most")

# The fields behind a host row's first word, in their order.
HOST_FIELDS = {
    "set": ("cell", "word"),
    "move": ("cell", "cell"),
    "take": ("cell", "box"),
    "keep": ("box", "cell"),
    "add": ("cell", "cell", "cell"),
    "sub": ("cell", "cell", "cell"),
    "times": ("cell", "cell", "cell"),
    "and": ("cell", "cell", "cell"),
    "or": ("cell", "cell", "cell"),
    "xor": ("cell", "cell", "cell"),
    "left": ("cell", "cell", "cell"),
    "right": ("cell", "cell", "cell"),
    "same": ("cell", "cell", "cell"),
    "below": ("cell", "cell", "cell"),
    "ones": ("cell", "cell", "cell"),
    "byte": ("cell", "cell", "ahead", "way"),
    "pair": ("cell", "cell", "ahead", "way"),
    "cell": ("cell", "cell", "table", "way"),
    "find": ("cell", "cell", "table", "way"),
    "value": ("cell", "cell", "table", "way"),
    "write": ("cell", "ahead", "cell", "way"),
    "fill": ("cell", "table", "cell", "way"),
    "change": ("cell", "table", "cell", "way"),
    "grow": ("cell", "table", "way"),
    "most": ("most", "exit"),
    "skip": ("cell", "skipped"),
    "leave": ("exit",),
}

# From which number up to which one a field goes, where neither rows nor exits matter.
HOST_BOUNDS = {
    "cell": (0, 11),
    "box": (0, 111),
    "word": (0, 65535),
    "ahead": (0, 255),
    "table": (0, 5),
    "most": (0, 11),
}


def is_host_number(value):
    """Whether a value is what a cell or a box holds."""
    return is_between(value, 0, MOST_NUMBER)


def is_sound_host(value):
    """Whether a value is a HOST."""
    if not is_tuple(value, 2, 2) or not are_all(value[0], CELLS, CELLS, is_host_number):
        return False
    return are_all(value[1], BOXES, BOXES, is_host_number)


def has_host_fields(value):
    """Whether a value is a tuple with a host row's first word and as many fields as it has."""
    if not isinstance(value, tuple) or not value or not isinstance(value[0], str):
        return False
    return value[0] in HOST_FIELDS and len(value) == 1 + len(HOST_FIELDS[value[0]])


def is_host_field(kind, part, behind, exits):
    """Whether a part can stand in a field, so many rows being behind it, and so many exits."""
    if kind == "way":
        return part is None or is_between(part, 0, exits - 1)
    if kind == "exit":
        return is_between(part, 0, exits - 1)
    if kind == "skipped":
        return is_between(part, 1, behind - 1)
    least, most = HOST_BOUNDS[kind]
    return is_between(part, least, most)


def is_host_row(value, behind, exits):
    """Whether a value is a row of the host, so many rows being behind it, and so many exits."""
    if not has_host_fields(value):
        return False
    return all(is_host_field(kind, part, behind, exits) for kind, part in zip(HOST_FIELDS[value[0]], value[1:]))


def is_inner_row(value):
    """Whether a value is a row that takes and gives cells and boxes alone."""
    if not is_host_row(value, 0, 0):
        return False
    return value[0] in ("set", "move", "take", "keep") or value[0] in HOST_OPS


def is_spot(value):
    """Whether a value is a spot."""
    if not is_tuple(value, 2, 2) or not isinstance(value[0], str):
        return False
    if value[0] == "number":
        return is_word(value[1])
    return value[0] in ("cell", "box") and is_host_field(value[0], value[1], 0, 0)


def is_spot_or_none(value):
    """Whether a value is a spot, or None for what stood there."""
    return value is None or is_spot(value)


def is_exit(value):
    """Whether a value is an exit."""
    if not is_tuple(value, 7, 7):
        return False
    many, why, place, answer = value[:4]
    if not is_between(many, 0, 12) or not is_one_of(why, REASONS) or not is_between(place, 0, 120):
        return False
    if not is_spot_or_none(answer) or not are_all(value[4], 8, 8, is_spot_or_none):
        return False
    return are_all(value[5], 16, 16, is_spot_or_none) and are_all(value[6], 4, 4, is_spot_or_none)


def are_host_rows(value, exits):
    """Whether a value is the rows of a translation with so many exits."""
    if not is_tuple(value, 1, 1600):
        return False
    for index, row in enumerate(value):
        if not is_host_row(row, len(value) - 1 - index, exits):
            return False
    skips = [row for row in value if row[0] == "skip"]
    return len(skips) <= 4 and value[-1][0] == "leave"


def is_sound_translation(value):
    """Whether a value is a translation."""
    if not is_tuple(value, 2, 2) or not are_all(value[1], 1, 100, is_exit):
        return False
    return are_host_rows(value[0], len(value[1]))
