"""Effects: which words and fields each of them has."""

from suresieves.checks import is_between, is_one_of
from suresieves.words import is_op

# The fields behind an effect's first word, in their order.
EFFECT_FIELDS = {
    "get": ("reg",),
    "slot": ("slot",),
    "number": ("word",),
    "length": (),
    "clock": (),
    "one": ("helper", "value"),
    "do": ("op", "value", "value"),
    "byte": ("value", "ahead", "row", "sure"),
    "pair": ("value", "ahead", "row", "sure"),
    "cell": ("value", "table", "row", "sure"),
    "find": ("value", "table", "row", "sure"),
    "value": ("value", "table", "row", "sure"),
    "write": ("value", "ahead", "value", "row", "sure"),
    "fill": ("value", "table", "value", "row", "sure"),
    "change": ("value", "table", "value", "row", "sure"),
    "grow": ("value", "table", "row", "sure"),
    "gone": (),
}

# From which number up to which one a field goes.
FIELD_BOUNDS = {
    "reg": (0, 7),
    "slot": (0, 15),
    "word": (0, 65535),
    "ahead": (0, 255),
    "table": (0, 5),
    "sure": (0, 1),
}

READINGS = ("byte", "pair", "cell", "find", "value")
CHANGES = ("write", "fill", "change", "grow")
PLAIN = ("get", "slot", "number", "length", "clock", "one", "do")
HELPERS_OF_ONE = ("ones", "mix", "low")


def does_reach(effect):
    """Whether an effect is a reading or a change."""
    return effect[0] in READINGS or effect[0] in CHANGES


def does_set(effect):
    """Whether an effect sets a value."""
    return effect[0] in PLAIN or effect[0] in READINGS


def row_of(effect):
    """The row of an effect that reaches."""
    return effect[-2]


def is_sure(effect):
    """Whether an effect that reaches is sure."""
    return effect[-1] == 1


def values_named(effect):
    """The values that an effect names."""
    return [part for kind, part in zip(EFFECT_FIELDS[effect[0]], effect[1:]) if kind == "value"]


def is_effect_field(kind, part, ahead, many):
    """Whether a part can stand in a field of an effect behind others, in a form of many rows."""
    if kind == "value":
        return is_between(part, 0, len(ahead) - 1) and does_set(ahead[part])
    if kind == "row":
        return is_between(part, 0, many - 1)
    if kind == "op":
        return is_op(part)
    if kind == "helper":
        return is_one_of(part, HELPERS_OF_ONE)
    least, most = FIELD_BOUNDS[kind]
    return is_between(part, least, most)


def is_effect(value, ahead, many):
    """Whether a value is an effect behind others, in a form of many rows."""
    if not isinstance(value, tuple) or not value or not isinstance(value[0], str):
        return False
    if value[0] not in EFFECT_FIELDS or len(value) != 1 + len(EFFECT_FIELDS[value[0]]):
        return False
    kinds = EFFECT_FIELDS[value[0]]
    return all(is_effect_field(kind, part, ahead, many) for kind, part in zip(kinds, value[1:]))
