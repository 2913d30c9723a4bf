"""Sources written in words and marks."""

OP_SIGNS = {
    "add": "+",
    "sub": "-",
    "and": "&",
    "or": "|",
    "xor": "^",
    "left": "<<",
    "right": ">>",
}

RELATION_SIGNS = {
    "same": "=",
    "other": "#",
    "below": "<",
    "from": ">=",
    "bit": "bit",
    "nobit": "nobit",
}


def expression_text(expression):
    """An expression written."""
    head = expression[0]
    if head in ("number", "name"):
        return str(expression[1])
    if head in OP_SIGNS:
        one, two = expression_text(expression[1]), expression_text(expression[2])
        return f"( {one} {OP_SIGNS[head]} {two} )"
    if head in ("cell", "value", "has"):
        return f"{head} {expression[1]} {expression_text(expression[2])}"
    if head in ("length", "clock"):
        return head
    return f"{head} {expression_text(expression[1])}"


def condition_text(condition):
    """A condition written."""
    head = condition[0]
    if head == "not":
        return f"not {condition_text(condition[1])}"
    if head in ("both", "either"):
        between = "and" if head == "both" else "or"
        return f"{head} {condition_text(condition[1])} {between} {condition_text(condition[2])}"
    one, two = expression_text(condition[1]), expression_text(condition[2])
    return f"{one} {RELATION_SIGNS[head]} {two}"


def plain_text(statement):
    """A statement without a body, written."""
    head = statement[0]
    if head == "leave":
        return head
    last = expression_text(statement[-1])
    if head == "answer":
        return f"answer {last}"
    if head == "let":
        return f"let {statement[1]} = {last}"
    if head == "count":
        return f"count cell {statement[1]} {last}"
    at = expression_text(statement[-2])
    if head == "write":
        return f"set byte {at} = {last}"
    sort = "cell" if head == "fill" else "value"
    return f"set {sort} {statement[1]} {at} = {last}"


def statement_lines(statement):
    """The lines of a statement."""
    if statement[0] == "repeat":
        return [f"repeat {statement[1]}", *body_lines(statement[2]), "end"]
    if statement[0] != "if":
        return [plain_text(statement)]
    lines = [f"if {condition_text(statement[1])} then", *body_lines(statement[2])]
    if statement[3]:
        lines.append("else")
        lines.extend(body_lines(statement[3]))
    lines.append("end")
    return lines


def body_lines(body):
    """The lines of a body."""
    lines = []
    for statement in body:
        lines.extend(statement_lines(statement))
    return lines
