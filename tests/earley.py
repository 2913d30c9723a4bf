"""A reader of sources by the grammar of point 18 alone, slow and without any cleverness.

It tells the index at which a writing is refused, None if it is taken: the first word or mark
with which no source goes on, as no row of the grammar reaches it."""

import re

KEPT = """let set byte pair cell value has ones mix length clock count if then else end repeat leave answer
not both and either or bit nobit""".split()
GRAMMAR = {
    "SOURCE": ["BODY"],
    "BODY": ["", "BODY STATEMENT"],
    "STATEMENT": [
        "let NAME = E", "set byte E = E", "set cell T E = E", "count cell T E", "set value T E = E",
        "if C then BODY end", "if C then BODY else BODY end", "repeat TIMES BODY end", "leave", "answer E",
    ],
    "E": ["NUMBER", "NAME", "length", "clock", "byte E", "pair E", "ones E", "mix E", "cell T E", "value T E",
          "has T E", "( E OP E )"],
    "OP": ["+", "-", "&", "|", "^", "<<", ">>"],
    "C": ["E = E", "E # E", "E < E", "E >= E", "E bit E", "E nobit E", "not C", "both C and C", "either C or C"],
}
RULES = {head: [tuple(row.split()) for row in rows] for head, rows in GRAMMAR.items()}


def is_number(text, least, most):
    return re.fullmatch("0|[1-9][0-9]{0,5}", text) is not None and least <= int(text) <= most


def is_told_by(symbol, text):
    """Whether a word or mark can stand for a symbol that is no head of the grammar."""
    if symbol == "NUMBER":
        return is_number(text, 0, 65535)
    if symbol == "T":
        return is_number(text, 0, 5)
    if symbol == "TIMES":
        return is_number(text, 1, 100)
    if symbol == "NAME":
        return re.fullmatch("[a-z][a-z0-9]{0,11}", text) is not None and text not in KEPT
    return symbol == text


def closed(rows, items, at):
    """All items that follow from those at a word, without reading one more."""
    waiting, seen = list(items), set(items)
    while waiting:
        head, rule, dot, start = waiting.pop()
        if dot < len(rule) and rule[dot] in RULES:
            new = [(rule[dot], row, 0, at) for row in RULES[rule[dot]]]
            if () in RULES[rule[dot]]:
                new.append((head, rule, dot + 1, start))
        elif dot == len(rule):
            earlier = seen if start == at else rows[start]
            new = [(h, r, d + 1, s) for h, r, d, s in earlier if d < len(r) and r[d] == head]
        else:
            new = []
        for item in new:
            if item not in seen:
                seen.add(item)
                waiting.append(item)
    return seen


def refused_at(writing):
    tokens = [(found.start(), found.group()) for found in re.finditer(r"[a-z0-9]+|<<|>>|>=|[^ \n]", writing)]
    rows = [closed([], [("SOURCE", ("BODY",), 0, 0)], 0)]
    for at, (place, text) in enumerate(tokens):
        read = [(h, r, d + 1, s) for h, r, d, s in rows[-1] if d < len(r) and r[d] not in RULES
                and is_told_by(r[d], text)]
        if not read:
            return place
        rows.append(closed(rows, read, at + 1))
    return None if ("SOURCE", ("BODY",), 1, 0) in rows[-1] else len(writing)
