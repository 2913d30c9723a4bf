"""Deeds and settings: which values they are, and what the shown ones make of tables."""

from suresieves.checks import is_between, is_tuple, is_whole
from suresieves.doing import exchanged, pair_index
from suresieves.errors import InvalidDeed, InvalidDeeds, InvalidSettings
from suresieves.linking import is_sound_link
from suresieves.rows import BOUNDS

MOST_DEEDS = 50
MOST_PAIRS = 16
SHOWN = ("cell", "value", "add", "off", "exchange")

# The fields behind a deed's first word, in their order.
DEED_FIELDS = {
    "cell": ("table", "index", "word"),
    "value": ("table", "word", "word"),
    "add": ("table", "word", "word"),
    "off": ("table", "word"),
    "exchange": ("number", "link"),
    "drop": ("number", "place"),
    "clear": (),
    "cut": (),
    "make": ("number", "place"),
    "settings": ("settings",),
}

# LIMIT, ROOM, HEAT, CHAINED, SHORT, GRADE, CELLS, VICTIM and GRAIN: from which number up to which one.
SETTING_BOUNDS = ((1, 12), (1, 40), (0, 9), (0, 1), (0, 1), (0, 3), (4, 12), (0, 2), (0, 1))


def are_sound_settings(value):
    """Whether a value is settings."""
    if not is_tuple(value, 9, 9):
        return False
    return all(is_between(part, least, most) for part, (least, most) in zip(value, SETTING_BOUNDS))


def need_settings(settings):
    """Raise InvalidSettings for what is no settings."""
    if not are_sound_settings(settings):
        raise InvalidSettings(settings)


def is_deed_field(kind, value):
    """Whether a value can stand in a field of this kind."""
    if kind == "link":
        return is_sound_link(value)
    if kind == "settings":
        return are_sound_settings(value)
    if kind == "number":
        return is_between(value, 0, 3)
    if kind == "index":
        return is_between(value, 0, 31)
    least, most = BOUNDS[kind]
    return is_between(value, least, most)


def is_deed(value):
    """Whether a value is a deed, shown or hidden."""
    if not isinstance(value, tuple) or not value or not isinstance(value[0], str):
        return False
    if value[0] not in DEED_FIELDS or len(value) != 1 + len(DEED_FIELDS[value[0]]):
        return False
    return all(is_deed_field(kind, part) for kind, part in zip(DEED_FIELDS[value[0]], value[1:]))


def is_shown(deed):
    """Whether a deed is a shown one."""
    return deed[0] in SHOWN


def is_timed_deed(value, least):
    """Whether a value is a pair (AT, DEED), AT being from least on."""
    return is_tuple(value, 2, 2) and is_whole(value[0]) and value[0] >= least and is_deed(value[1])


def wrong_deed(value):
    """The index of the first element of a tuple that can't stand there in deeds, None if all can."""
    least = 0
    for index, part in enumerate(value):
        if not is_timed_deed(part, least):
            return index
        least = part[0]
    return None


def are_sound_deeds(value):
    """Whether a value is deeds."""
    return is_tuple(value, 0, MOST_DEEDS) and wrong_deed(value) is None


def need_deeds(deeds):
    """Raise InvalidDeeds for what is no deeds."""
    if not is_tuple(deeds, 0, MOST_DEEDS):
        raise InvalidDeeds(None)
    wrong = wrong_deed(deeds)
    if wrong is not None:
        raise InvalidDeeds(wrong)


def need_deed(deed):
    """Raise InvalidDeed for what is no deed."""
    if not is_deed(deed):
        raise InvalidDeed(deed)


def cells_behind(cells, deed):
    """Cells behind a deed, None if there is no such cell."""
    _, _, index, word = deed
    return exchanged(cells, index, word) if index < len(cells) else None


def pairs_behind(pairs, deed):
    """Pairs behind a deed, None if it can't be done."""
    head, key = deed[0], deed[2]
    index = pair_index(pairs, key)
    if head == "add":
        if index is not None or len(pairs) >= MOST_PAIRS:
            return None
        return tuple(sorted(pairs + ((key, deed[3]),)))
    if index is None:
        return None
    if head == "off":
        return pairs[:index] + pairs[index + 1:]
    return exchanged(pairs, index, (key, deed[3]))


def tables_behind(tables, deed):
    """Tables behind a deed that is no exchange, None if it can't be done."""
    head, t = deed[0], deed[1]
    sort = "array" if head == "cell" else "pairs"
    if t >= len(tables) or tables[t][0] != sort:
        return None
    content = tables[t][2]
    behind = cells_behind(content, deed) if head == "cell" else pairs_behind(content, deed)
    return None if behind is None else exchanged(tables, t, exchanged(tables[t], 2, behind))
