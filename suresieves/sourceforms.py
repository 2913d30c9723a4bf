"""Which values are sources, and what can be read off them."""

from suresieves.checks import is_between, is_tuple
from suresieves.names import is_name_beside
from suresieves.rows import BOUNDS
from suresieves.words import CONDITIONS

KEPT_WORDS = (
    "let", "set", "byte", "pair", "cell", "value", "has", "ones", "mix",
    "length", "clock", "count", "if", "then", "else", "end", "repeat", "leave",
    "answer", "not", "both", "and", "either", "or", "bit", "nobit",
)

# The fields of each expression.
EXPRESSIONS = {
    "number": ("word",),
    "name": ("name",),
    "length": (),
    "clock": (),
    "byte": ("expression",),
    "pair": ("expression",),
    "ones": ("expression",),
    "mix": ("expression",),
    "cell": ("table", "expression"),
    "value": ("table", "expression"),
    "has": ("table", "expression"),
    "add": ("expression", "expression"),
    "sub": ("expression", "expression"),
    "and": ("expression", "expression"),
    "or": ("expression", "expression"),
    "xor": ("expression", "expression"),
    "left": ("expression", "expression"),
    "right": ("expression", "expression"),
}

# The fields of each statement that has no body.
PLAIN_STATEMENTS = {
    "let": ("name", "expression"),
    "write": ("expression", "expression"),
    "fill": ("table", "expression", "expression"),
    "count": ("table", "expression"),
    "change": ("table", "expression", "expression"),
    "answer": ("expression",),
}


def is_name(value):
    """Whether a value is a name of a source."""
    return is_name_beside(value, KEPT_WORDS)


def head_of(value):
    """The text with which a tuple begins, None if there is none."""
    if isinstance(value, tuple) and value and isinstance(value[0], str):
        return value[0]
    return None


def is_part(kind, value, room):
    """Whether a value can stand in a field, an expression being up to room deep."""
    if kind == "expression":
        return is_expression(value, room)
    if kind == "name":
        return is_name(value)
    least, most = BOUNDS[kind]
    return is_between(value, least, most)


def has_parts(value, kinds, room):
    """Whether there are just these fields behind the first word."""
    if len(value) != 1 + len(kinds):
        return False
    return all(is_part(kind, part, room) for kind, part in zip(kinds, value[1:]))


def is_expression(value, room):
    """Whether a value is an expression, nested up to room deep."""
    head = head_of(value)
    if room == 0 or head is None or head not in EXPRESSIONS:
        return False
    return has_parts(value, EXPRESSIONS[head], room - 1)


def is_condition(value, room):
    """Whether a value is a condition, nested up to room deep."""
    head = head_of(value)
    if room == 0 or head is None:
        return False
    if head in CONDITIONS:
        return has_parts(value, ("expression", "expression"), 5)
    if head == "not":
        return len(value) == 2 and is_condition(value[1], room - 1)
    if head in ("both", "either") and len(value) == 3:
        return is_condition(value[1], room - 1) and is_condition(value[2], room - 1)
    return False


def is_statement(value, deep, repeats, rounds):
    """Whether a value is a statement within so many ifs and repeats, and repeats, with these rounds."""
    head = head_of(value)
    if head is None or rounds > 400:
        return False
    if head in PLAIN_STATEMENTS:
        return has_parts(value, PLAIN_STATEMENTS[head], 5)
    if head == "leave":
        return len(value) == 1 and repeats > 0
    if deep == 5:
        return False
    if head == "if" and len(value) == 4 and is_condition(value[1], 4):
        return all(is_body(body, deep + 1, repeats, rounds) for body in value[2:])
    if head == "repeat" and len(value) == 3 and repeats < 4 and is_between(value[1], 1, 100):
        return is_body(value[2], deep + 1, repeats + 1, rounds * value[1])
    return False


def is_body(value, deep, repeats, rounds):
    """Whether a value is a body within so many ifs and repeats, and repeats, with these rounds."""
    if not is_tuple(value, 0, 12):
        return False
    return all(is_statement(part, deep, repeats, rounds) for part in value)


def nodes_in(value):
    """All expressions, conditions and statements within a right body or one of these, from the left."""
    found = []
    if head_of(value) is not None:
        found.append(value)
    for part in value:
        if isinstance(part, tuple):
            found.extend(nodes_in(part))
    return found


def names_in(source):
    """The variables of a right body, in the order in which they first come."""
    names = []
    for node in nodes_in(source):
        if node[0] in ("let", "name") and node[1] not in names:
            names.append(node[1])
    return tuple(names)


def has_few_statements(value):
    """Whether a value, if it is a body, has up to 40 statements, with all bodies within."""
    waiting, many = [value], 0
    while waiting:
        body = waiting.pop()
        if not isinstance(body, tuple):
            return False
        many += len(body)
        if many > 40:
            return False
        for statement in body:
            if head_of(statement) in ("if", "repeat"):
                waiting.extend(statement[2:])
    return True


def is_sound_source(value):
    """Whether a value is a source."""
    # They are counted first, so that no more than 40 are ever looked at more closely.
    if not has_few_statements(value) or not is_body(value, 0, 0, 1):
        return False
    return len(names_in(value)) <= 12


def greatest_rounds(body, rounds):
    """The greatest rounds of any statement in a right body with these rounds, 1 if there is none."""
    greatest = rounds if body else 1
    for statement in body:
        if statement[0] == "if":
            inner = [(part, rounds) for part in statement[2:]]
        elif statement[0] == "repeat":
            inner = [(statement[2], rounds * statement[1])]
        else:
            inner = []
        for part, many in inner:
            greatest = max(greatest, greatest_rounds(part, many))
    return greatest
