"""Words: how two of them are reckoned and related, and what helpers tell of one."""

from suresieves.checks import is_one_of, is_word
from suresieves.errors import InvalidNumber

OPS = ("add", "sub", "and", "or", "xor", "left", "right")
CONDITIONS = ("same", "other", "below", "from", "bit", "nobit")
HELPERS = ("clock", "ones", "mix")
OPPOSITES = {
    "same": "other",
    "other": "same",
    "below": "from",
    "from": "below",
    "bit": "nobit",
    "nobit": "bit",
}


def need_word(value):
    """Raise InvalidNumber for what is no word."""
    if not is_word(value):
        raise InvalidNumber(value)


def is_op(value):
    """Whether a value is one of the seven by which two words are reckoned."""
    return is_one_of(value, OPS)


def is_condition_word(value):
    """Whether a value is one of the six by which two words are related."""
    return is_one_of(value, CONDITIONS)


def opposite(condition):
    """The condition that holds just where this one does not."""
    return OPPOSITES[condition]


def combined(op, one, two):
    """The word that comes of two words."""
    if op == "add":
        return (one + two) & 65535
    if op == "sub":
        return (one - two) & 65535
    if op == "and":
        return one & two
    if op == "or":
        return one | two
    if op == "xor":
        return one ^ two
    if op == "left":
        return (one << (two & 15)) & 65535
    return one >> (two & 15)


def related(condition, one, two):
    """Whether the condition holds of two words."""
    if condition == "same":
        return one == two
    if condition == "other":
        return one != two
    if condition == "below":
        return one < two
    if condition == "from":
        return one >= two
    if condition == "bit":
        return one & two != 0
    return one & two == 0


def ones_in(number):
    """How many bits of a number are 1."""
    return f"{number:b}".count("1")


def mixed(word):
    """What the helper mix tells of a word."""
    return (word * 40503 + 1) & 65535


def figures_from(number):
    """The least number 2^K - 1 from a number on."""
    return (1 << number.bit_length()) - 1
