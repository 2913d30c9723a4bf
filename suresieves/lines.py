"""Lines of listings: which values are lines, and how each is written and read."""

from suresieves.checks import is_tuple
from suresieves.errors import InvalidWriting
from suresieves.names import is_name_beside, number_in
from suresieves.rows import BOUNDS, FIELDS, goes_elsewhere, has_fields, is_field
from suresieves.tokens import line_words
from suresieves.words import CONDITIONS, HELPERS

# The first words of the rows, COND, the helpers and label; and the registers.
KEPT_WORDS = (
    "set", "move", "length", "take", "keep",
    "add", "sub", "and", "or", "xor", "left", "right",
    "addn", "andn", "orn", "xorn", "leftn", "rightn",
    "byte", "pair", "write", "cell", "fill", "count", "find", "value", "change",
    "ask", "jump", "when", "whenn", "begin", "again", "answer",
    "same", "other", "below", "from", "bit", "nobit",
    "clock", "ones", "mix", "label",
    "r0", "r1", "r2", "r3", "r4", "r5", "r6", "r7",
)

SHOWN_REGISTERS = ("r0", "r1", "r2", "r3", "r4", "r5", "r6", "r7")


def is_label_name(value):
    """Whether a value is a name that a label can have."""
    return is_name_beside(value, KEPT_WORDS)


def is_line_field(kind, value):
    """Whether a value can stand in a field of this kind, in a listing."""
    return is_field(kind, value) or (kind == "place" and is_label_name(value))


def is_line(value):
    """Whether a value is a line of a listing."""
    if is_tuple(value, 2, 2) and isinstance(value[0], str) and value[0] == "label":
        return is_label_name(value[1])
    if not has_fields(value):
        return False
    return all(is_line_field(kind, part) for kind, part in zip(FIELDS[value[0]], value[1:]))


def label_wanted(line):
    """The name that is the d of a line, None if there is none."""
    if goes_elsewhere(line[0]) and isinstance(line[-1], str):
        return line[-1]
    return None


def field_text(kind, value):
    """A field written."""
    return SHOWN_REGISTERS[value] if kind == "reg" else str(value)


def line_text(line):
    """A line written."""
    if line[0] == "label":
        return f"{line[1]}:"
    fields = [field_text(kind, part) for kind, part in zip(FIELDS[line[0]], line[1:])]
    return " ".join([line[0], *fields])


def field_in(kind, word):
    """What a word tells as a field of this kind, None if it can't stand there."""
    if kind == "reg":
        return SHOWN_REGISTERS.index(word) if word in SHOWN_REGISTERS else None
    if kind == "condition":
        return word if word in CONDITIONS else None
    if kind == "helper":
        return word if word in HELPERS else None
    if kind == "place" and is_label_name(word):
        return word
    least, most = BOUNDS[kind]
    return number_in(word, least, most)


def label_in(word):
    """The name that a label's word tells, None if it is none."""
    name = word[:-1]
    return name if word[-1] == ":" and is_label_name(name) else None


def read_head(word):
    """The line as far as its first word tells it, and the kinds of the fields that are due.

    None for a word that can't stand there."""
    name = label_in(word)
    if name is not None:
        return ("label", name), ()
    if word in FIELDS:
        return (word,), FIELDS[word]
    return None


def read_line(number, text):
    """The line that a text tells, number being its own number in the writing."""
    words = line_words(text)
    if not words:
        raise InvalidWriting(number, len(text))
    head = read_head(words[0][1])
    if head is None:
        raise InvalidWriting(number, words[0][0])
    line, kinds = head
    for kind, (place, word) in zip(kinds, words[1:]):
        field = field_in(kind, word)
        if field is None:
            raise InvalidWriting(number, place)
        line += (field,)
    if len(words) > 1 + len(kinds):
        raise InvalidWriting(number, words[1 + len(kinds)][0])
    if len(words) < 1 + len(kinds):
        raise InvalidWriting(number, len(text))
    return line
