"""Sources made into rows, expression by expression and statement by statement."""

from suresieves.rows import goes_elsewhere
from suresieves.words import CONDITIONS, OPS, opposite


class Draft:
    """Rows in the making: what goes elsewhere has the number of a mark as its d at first."""

    def __init__(self, names, kinds):
        self.names = names
        self.kinds = kinds
        self.rows = []
        self.marks = []

    def put(self, *row):
        """Put a row behind the others."""
        self.rows.append(row)

    def new_mark(self):
        """The number of a mark that stands nowhere yet."""
        self.marks.append(None)
        return len(self.marks) - 1

    def stand(self, mark):
        """Let a mark stand at the next row."""
        self.marks[mark] = len(self.rows)

    def size_of(self, t):
        """How many cells the grant's array t has."""
        return self.kinds[t][2]

    def sieve(self):
        """The rows, each mark being its place."""
        rows = []
        for row in self.rows:
            if goes_elsewhere(row[0]):
                row = row[:-1] + (self.marks[row[-1]],)
            rows.append(row)
        return tuple(rows)


def put_worth(draft, expression, i):
    """E to i."""
    head = expression[0]
    if head == "number":
        draft.put("set", i, expression[1])
    elif head == "name":
        draft.put("take", i, draft.names.index(expression[1]))
    elif head == "length":
        draft.put("length", i)
    elif head == "clock":
        draft.put("ask", i, "clock", i)
    elif head in OPS:
        put_worth(draft, expression[1], i)
        put_worth(draft, expression[2], i + 1)
        draft.put(head, i, i + 1)
    else:
        put_worth(draft, expression[-1], i)
        put_helped(draft, expression, i)


def put_helped(draft, expression, i):
    """What is made of the word in i, for an expression of one expression."""
    head = expression[0]
    if head in ("ones", "mix"):
        draft.put("ask", i, head, i)
    elif head in ("has", "value"):
        put_pairs_worth(draft, expression, i)
    else:
        put_guarded_worth(draft, expression, i)


def put_pairs_worth(draft, expression, i):
    """has and value, the key being in i."""
    head, t, _ = expression
    away = draft.new_mark()
    draft.put("find", i, t, i)
    draft.put("whenn", "same", i, 0, away)
    if head == "has":
        draft.put("set", i, 1)
    else:
        draft.put("value", i, t, i)
    draft.stand(away)


def put_guarded_worth(draft, expression, i):
    """byte, pair and cell, the index being in i: 0 where it is none."""
    head = expression[0]
    away, behind = draft.new_mark(), draft.new_mark()
    if head == "cell":
        t = expression[1]
        draft.put("whenn", "from", i, draft.size_of(t), away)
        draft.put("cell", i, t, i)
    else:
        draft.put("length", 6)
        draft.put("when", "from", i, 6, away)
        if head == "pair":
            put_second_byte(draft, i, away)
        else:
            draft.put("byte", i, i, 0)
    draft.put("jump", behind)
    draft.stand(away)
    draft.put("set", i, 0)
    draft.stand(behind)


def put_second_byte(draft, i, away):
    """pair behind the look at its first byte."""
    draft.put("move", 7, i)
    draft.put("addn", 7, 1)
    draft.put("when", "from", 7, 6, away)
    draft.put("byte", i, i, 0)
    draft.put("byte", 7, 7, 0)
    draft.put("leftn", i, 8)
    draft.put("or", i, 7)


def put_to(draft, condition, is_wanted, mark):
    """To a mark if a condition is as wanted: so, or not so."""
    head = condition[0]
    if head in CONDITIONS:
        put_worth(draft, condition[1], 0)
        put_worth(draft, condition[2], 1)
        draft.put("when", head if is_wanted else opposite(head), 0, 1, mark)
    elif head == "not":
        put_to(draft, condition[1], not is_wanted, mark)
    elif (head == "either") == is_wanted:
        put_to(draft, condition[1], is_wanted, mark)
        put_to(draft, condition[2], is_wanted, mark)
    else:
        behind = draft.new_mark()
        put_to(draft, condition[1], not is_wanted, behind)
        put_to(draft, condition[2], is_wanted, mark)
        draft.stand(behind)


def put_write(draft, away):
    draft.put("length", 6)
    draft.put("when", "from", 0, 6, away)
    draft.put("write", 1, 0, 0)


def put_cell_row(draft, statement, away):
    t = statement[1]
    draft.put("whenn", "from", 0, draft.size_of(t), away)
    if statement[0] == "fill":
        draft.put("fill", 1, t, 0)
    else:
        draft.put("count", t, 0)


def put_change(draft, statement, away):
    t = statement[1]
    draft.put("find", 0, t, 0)
    draft.put("whenn", "same", 0, 0, away)
    draft.put("change", 1, t, 0)


def put_guarded(draft, statement):
    """write, fill, count and change: their expressions, and the row where it is granted."""
    head = statement[0]
    expressions = statement[1:] if head == "write" else statement[2:]
    for i, expression in enumerate(expressions):
        put_worth(draft, expression, i)
    away = draft.new_mark()
    if head == "write":
        put_write(draft, away)
    elif head == "change":
        put_change(draft, statement, away)
    else:
        put_cell_row(draft, statement, away)
    draft.stand(away)


def put_if(draft, statement, loops, out):
    away = draft.new_mark()
    put_to(draft, statement[1], False, away)
    put_body(draft, statement[2], loops, out)
    if statement[3]:
        behind = draft.new_mark()
        draft.put("jump", behind)
        draft.stand(away)
        put_body(draft, statement[3], loops, out)
        draft.stand(behind)
    else:
        draft.stand(away)


def put_repeat(draft, statement, loops):
    times, body = statement[1:]
    behind = draft.new_mark()
    if times == 1:
        put_body(draft, body, loops + 1, behind)
    else:
        top = draft.new_mark()
        draft.put("begin", loops)
        draft.stand(top)
        put_body(draft, body, loops + 1, behind)
        draft.put("again", loops, times - 1, top)
    draft.stand(behind)


def put_statement(draft, statement, loops, out):
    """The rows of a statement within so many repeats, the mark out behind the innermost one."""
    head = statement[0]
    if head == "let":
        put_worth(draft, statement[2], 0)
        draft.put("keep", 0, draft.names.index(statement[1]))
    elif head == "answer":
        put_worth(draft, statement[1], 0)
        draft.put("answer", 0)
    elif head == "leave":
        draft.put("jump", out)
    elif head == "if":
        put_if(draft, statement, loops, out)
    elif head == "repeat":
        put_repeat(draft, statement, loops)
    else:
        put_guarded(draft, statement)


def put_body(draft, body, loops, out):
    """The rows of a body, statement by statement."""
    for statement in body:
        put_statement(draft, statement, loops, out)


def rows_of(source, names, kinds):
    """All rows of a source with these variables, for a grant with these kinds, however many."""
    draft = Draft(names, kinds)
    put_body(draft, source, 0, None)
    draft.put("set", 0, 0)
    draft.put("answer", 0)
    return draft.sieve()
