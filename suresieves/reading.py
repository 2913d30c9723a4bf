"""Writings of sources read.

The reader keeps what is still to come in a list of orders of its own, not in
calls within calls, as a writing may be nested many thousands deep."""

from suresieves.errors import InvalidWriting
from suresieves.names import number_in
from suresieves.sourceforms import is_name
from suresieves.tokens import tokens_in

# What is to come behind the first word of each statement, in order.
STATEMENTS = {
    "let": (("name",), ("sign", "="), ("expression",), ("build", "let", 2)),
    "set": (("target",),),
    "count": (("sign", "cell"), ("number", 0, 5), ("expression",), ("build", "count", 2)),
    "if": (("condition",), ("sign", "then"), ("open",), ("rest",), ("build", "if", 3)),
    "repeat": (("number", 1, 100), ("open",), ("sign", "end"), ("build", "repeat", 2)),
    "leave": (("build", "leave", 0),),
    "answer": (("expression",), ("build", "answer", 1)),
}

# What is to come behind set and the word that tells what is set.
TARGETS = {
    "byte": (
        ("expression",), ("sign", "="), ("expression",), ("build", "write", 2),
    ),
    "cell": (
        ("number", 0, 5), ("expression",), ("sign", "="), ("expression",), ("build", "fill", 3),
    ),
    "value": (
        ("number", 0, 5), ("expression",), ("sign", "="), ("expression",), ("build", "change", 3),
    ),
}

# What is to come behind the first word or mark of an expression.
EXPRESSIONS = {
    "length": (("build", "length", 0),),
    "clock": (("build", "clock", 0),),
    "byte": (("expression",), ("build", "byte", 1)),
    "pair": (("expression",), ("build", "pair", 1)),
    "ones": (("expression",), ("build", "ones", 1)),
    "mix": (("expression",), ("build", "mix", 1)),
    "cell": (("number", 0, 5), ("expression",), ("build", "cell", 2)),
    "value": (("number", 0, 5), ("expression",), ("build", "value", 2)),
    "has": (("number", 0, 5), ("expression",), ("build", "has", 2)),
    "(": (("expression",), ("op",), ("expression",), ("sign", ")"), ("join",)),
}

# What is to come behind the first word of a condition that is none of two expressions.
CONDITIONS = {
    "not": (("condition",), ("build", "not", 1)),
    "both": (("condition",), ("sign", "and"), ("condition",), ("build", "both", 2)),
    "either": (("condition",), ("sign", "or"), ("condition",), ("build", "either", 2)),
}

OP_SIGNS = {
    "+": "add",
    "-": "sub",
    "&": "and",
    "|": "or",
    "^": "xor",
    "<<": "left",
    ">>": "right",
}

RELATION_SIGNS = {
    "=": "same",
    "#": "other",
    "<": "below",
    ">=": "from",
    "bit": "bit",
    "nobit": "nobit",
}


class Reader:
    """What has been read of a writing, and what is still to come."""

    def __init__(self, writing):
        self.tokens = tokens_in(writing)
        self.size = len(writing)
        self.at = 0
        self.orders = [("finish",), ("open",)]
        self.made = []

    def text(self):
        """The next word or mark, the empty text if there is none."""
        return self.tokens[self.at][1] if self.at < len(self.tokens) else ""

    def here(self):
        """Where the next word or mark begins, how many signs there are if there is none."""
        return self.tokens[self.at][0] if self.at < len(self.tokens) else self.size

    def order_all(self, parts):
        """Do these orders next, from the first one on."""
        self.orders.extend(parts[::-1])

    def go_by(self, parts):
        """Take the next word or mark, and do these orders next."""
        self.at += 1
        self.order_all(parts)

    def build(self, head, many):
        """Make one thing of the newest ones, as many as told."""
        start = len(self.made) - many
        parts = tuple(self.made[start:])
        del self.made[start:]
        self.made.append((head,) + parts)


def read_sign(reader, order):
    if reader.text() != order[1]:
        raise InvalidWriting(0, reader.here())
    reader.at += 1


def read_name(reader, order):
    if not is_name(reader.text()):
        raise InvalidWriting(0, reader.here())
    reader.made.append(reader.text())
    reader.at += 1


def read_number(reader, order):
    number = number_in(reader.text(), order[1], order[2])
    if number is None:
        raise InvalidWriting(0, reader.here())
    reader.made.append(number)
    reader.at += 1


def read_target(reader, order):
    if reader.text() not in TARGETS:
        raise InvalidWriting(0, reader.here())
    reader.go_by(TARGETS[reader.text()])


def read_expression(reader, order):
    text = reader.text()
    if text in EXPRESSIONS:
        reader.go_by(EXPRESSIONS[text])
    elif is_name(text):
        reader.order_all((("name",), ("build", "name", 1)))
    else:
        reader.order_all((("number", 0, 65535), ("build", "number", 1)))


def read_condition(reader, order):
    text = reader.text()
    if text in CONDITIONS:
        reader.go_by(CONDITIONS[text])
    else:
        reader.order_all((("expression",), ("relation",), ("expression",), ("join",)))


def read_op(reader, order):
    if reader.text() not in OP_SIGNS:
        raise InvalidWriting(0, reader.here())
    reader.made.append(OP_SIGNS[reader.text()])
    reader.at += 1


def read_relation(reader, order):
    if reader.text() not in RELATION_SIGNS:
        raise InvalidWriting(0, reader.here())
    reader.made.append(RELATION_SIGNS[reader.text()])
    reader.at += 1


def join_two(reader, order):
    two = reader.made.pop()
    word = reader.made.pop()
    one = reader.made.pop()
    reader.made.append((word, one, two))


def build_one(reader, order):
    reader.build(order[1], order[2])


def open_body(reader, order):
    reader.made.append([])
    reader.orders.append(("body",))


def read_body(reader, order):
    text = reader.text()
    if text in STATEMENTS:
        reader.order_all((("gather",), ("body",)))
        reader.go_by(STATEMENTS[text])
    else:
        reader.made.append(tuple(reader.made.pop()))


def gather_statement(reader, order):
    statement = reader.made.pop()
    body = reader.made[-1]
    body.append(statement)


def read_rest(reader, order):
    if reader.text() == "else":
        reader.go_by((("open",), ("sign", "end")))
        return
    read_sign(reader, ("sign", "end"))
    reader.made.append(())


def finish(reader, order):
    if reader.at < len(reader.tokens):
        raise InvalidWriting(0, reader.here())


ACTIONS = {
    "sign": read_sign,
    "name": read_name,
    "number": read_number,
    "target": read_target,
    "expression": read_expression,
    "condition": read_condition,
    "op": read_op,
    "relation": read_relation,
    "join": join_two,
    "build": build_one,
    "open": open_body,
    "body": read_body,
    "gather": gather_statement,
    "rest": read_rest,
    "finish": finish,
}


def body_in(writing):
    """The body that a writing tells, however deep it is nested."""
    reader = Reader(writing)
    while reader.orders:
        order = reader.orders.pop()
        action = ACTIONS[order[0]]
        action(reader, order)
    return reader.made[0]
