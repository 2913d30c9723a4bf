"""What a reading in a form finds again: what was read ahead of it, or put there.

Forms are not checked here: who calls has done so."""

from suresieves.effects import CHANGES, READINGS


def word_of(effects, k):
    """The word of a value that is a number, None for another one."""
    return effects[k][1] if effects[k][0] == "number" else None


def are_alike(effects, k, j):
    """Whether two values are alike."""
    word = word_of(effects, k)
    return k == j or (word is not None and word == word_of(effects, j))


def are_apart(effects, k, j):
    """Whether two values are apart."""
    one, two = word_of(effects, k), word_of(effects, j)
    return one is not None and two is not None and one != two


def sum_at(effects, spot):
    """The index of a packet place whose value is a number, None for another one."""
    word = word_of(effects, spot[0])
    return None if word is None else word + spot[1]


def are_places_alike(effects, one, two):
    """Whether two packet places are alike."""
    at = sum_at(effects, one)
    return one == two or (at is not None and at == sum_at(effects, two))


def are_places_apart(effects, one, two):
    """Whether two packet places are apart."""
    if one[0] == two[0]:
        return one[1] != two[1]
    first, second = sum_at(effects, one), sum_at(effects, two)
    return first is not None and second is not None and first != second


def does_write_touch(effects, change, read):
    """Whether a write touches what a reading reads."""
    if read[0] not in ("byte", "pair"):
        return False
    put, found = change[1:3], read[1:3]
    if not are_places_apart(effects, put, found):
        return True
    return read[0] == "pair" and not are_places_apart(effects, put, (found[0], found[1] + 1))


def does_touch(effects, change, read):
    """Whether a change touches what a reading reads."""
    if change[0] == "write":
        return does_write_touch(effects, change, read)
    if read[0] not in ("cell", "value") or change[2] != read[2]:
        return False
    return not are_apart(effects, change[1], read[1])


def is_like_reading(effects, other, read):
    """Whether another reading reads the same at the same place."""
    if other[0] != read[0]:
        return False
    if read[0] in ("byte", "pair"):
        return are_places_alike(effects, other[1:3], read[1:3])
    return other[2] == read[2] and are_alike(effects, other[1], read[1])


def is_putting(effects, change, read):
    """Whether a change puts what a reading reads."""
    if change[0] == "write":
        return read[0] == "byte" and are_places_alike(effects, change[1:3], read[1:3])
    if (change[0], read[0]) not in (("fill", "cell"), ("change", "value")):
        return False
    return change[2] == read[2] and are_alike(effects, change[1], read[1])


def does_tell(effects, k, j):
    """Whether effect j, ahead of k, tells what k reads, and nothing between touches it."""
    other, read = effects[j], effects[k]
    if read[0] not in READINGS:
        return False
    if not is_like_reading(effects, other, read) and not is_putting(effects, other, read):
        return False
    between = [effect for effect in effects[j + 1:k] if effect[0] in CHANGES]
    return not any(does_touch(effects, change, read) for change in between)
