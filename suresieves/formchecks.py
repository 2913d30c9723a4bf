"""Which values are forms."""

from suresieves.checks import is_between, is_one_of, is_tuple
from suresieves.effects import does_reach, does_set, is_effect, is_sure, row_of
from suresieves.words import is_condition_word

MOST_EFFECTS = 80
END_WORDS = ("on", "jump", "when", "again", "answer")


def are_effects(value, many):
    """Whether a value is a tuple of effects of many rows, rows of those that reach rising."""
    if not is_tuple(value, 0, MOST_EFFECTS):
        return False
    last = -1
    for k, effect in enumerate(value):
        if not is_effect(effect, value[:k], many):
            return False
        if does_reach(effect):
            if row_of(effect) <= last:
                return False
            last = row_of(effect)
    return True


def is_value(value, effects):
    """Whether a value is the index of an effect that sets one."""
    return is_between(value, 0, len(effects) - 1) and does_set(effects[value])


def is_place_told(value, effects, most):
    """Whether a value is what a boundary tells of a register or slot, its index being below most."""
    return value is None or (is_value(value, effects) and value < most)


def is_counter_told(value, effects, most):
    """Whether a value is what a boundary tells of a counter, its index being below most."""
    if not is_place_told(value, effects, most):
        return False
    return value is None or (effects[value][0] == "number" and effects[value][1] <= 100)


def values_in_time(effects, number):
    """How many values are set ahead of each effect that reaches of a row from this number on."""
    for k, effect in enumerate(effects):
        if does_reach(effect) and row_of(effect) >= number:
            return k
    return len(effects)


def is_boundary(value, effects, number):
    """Whether a value is the boundary of this number, told."""
    if not is_tuple(value, 3, 3):
        return False
    most = values_in_time(effects, number)
    for parts, many in zip(value, (8, 16, 4)):
        if not is_tuple(parts, many, many):
            return False
    if not all(is_counter_told(part, effects, most) for part in value[2]):
        return False
    return all(is_place_told(part, effects, most) for part in value[0] + value[1])


def places_left(effects, many):
    """The boundaries where a form of many rows may be left, ascending."""
    rows = [row_of(effect) for effect in effects if does_reach(effect) and not is_sure(effect)]
    return sorted(set([0, many] + rows))


def are_boundaries(value, effects, many):
    """Whether a value is the boundaries of a form of many rows."""
    if not is_tuple(value, many + 1, many + 1):
        return False
    wanted = places_left(effects, many)
    for number, boundary in enumerate(value):
        if boundary is None:
            if number in wanted:
                return False
        elif not is_boundary(boundary, effects, number):
            return False
    return True


def is_form_end(value, effects):
    """Whether a value is the END of a form."""
    if not isinstance(value, tuple) or not value or not is_one_of(value[0], END_WORDS):
        return False
    parts = value[1:]
    if value[0] == "on":
        return len(parts) == 0
    if value[0] == "jump":
        return len(parts) == 1 and is_between(parts[0], 0, 119)
    if value[0] == "answer":
        return len(parts) == 1 and is_value(parts[0], effects)
    if value[0] == "again":
        return is_again_told(parts)
    return len(parts) == 4 and is_condition_told(parts, effects)


def is_again_told(parts):
    """Whether parts are a counter, a number and a place, as in again."""
    if len(parts) != 3 or not is_between(parts[0], 0, 3):
        return False
    return is_between(parts[1], 1, 100) and is_between(parts[2], 0, 119)


def is_condition_told(parts, effects):
    """Whether parts are a condition, two values and a place, as in when."""
    condition, x, y, d = parts
    if not is_value(x, effects) or not is_value(y, effects):
        return False
    return is_condition_word(condition) and is_between(d, 0, 119)


def is_sound_form(value):
    """Whether a value is a form."""
    if not is_tuple(value, 5, 5):
        return False
    place, many, effects, boundaries, end = value
    if not is_between(place, 0, 119) or not is_between(many, 1, 12) or place + many > 120:
        return False
    if not are_effects(effects, many) or not are_boundaries(boundaries, effects, many):
        return False
    return is_form_end(end, effects)
