"""Checks of numbers and tuples, on which all other checks stand."""


def is_whole(value):
    """Whether a value is a whole number: True and False are none."""
    return isinstance(value, int) and not isinstance(value, bool)


def is_between(value, least, most):
    """Whether a value is a whole number from least up to most."""
    return is_whole(value) and least <= value <= most


def is_from_nought(value):
    """Whether a value is a whole number from 0 on."""
    return is_whole(value) and value >= 0


def is_word(value):
    """Whether a value is a word."""
    return is_between(value, 0, 65535)


def is_flag(value):
    """Whether a value is one of the numbers 0 and 1."""
    return is_between(value, 0, 1)


def is_one_of(value, texts):
    """Whether a value is one of these texts."""
    return isinstance(value, str) and value in texts


def is_tuple(value, least, most):
    """Whether a value is a tuple of from least up to most elements."""
    return isinstance(value, tuple) and least <= len(value) <= most


def are_all(value, least, most, is_good):
    """Whether a value is a tuple of so many elements, all of them good."""
    return is_tuple(value, least, most) and first_bad(value, is_good) is None


def first_bad(values, is_good):
    """The index of the first element that is not good, None if all are."""
    for index, value in enumerate(values):
        if not is_good(value):
            return index
    return None


def is_same(value, known):
    """Whether a value is just this one of whole numbers, texts, None and tuples of these."""
    if isinstance(known, tuple):
        if not isinstance(value, tuple) or len(value) != len(known):
            return False
        return all(is_same(one, two) for one, two in zip(value, known))
    if isinstance(known, str):
        return isinstance(value, str) and value == known
    if known is None:
        return value is None
    return is_whole(value) and value == known


def is_stretch(value, most):
    """Whether a value is a pair (LOW, HIGH) of numbers from 0 up to most, LOW up to HIGH."""
    if not (is_tuple(value, 2, 2) and is_between(value[0], 0, most)):
        return False
    return is_between(value[1], value[0], most)
