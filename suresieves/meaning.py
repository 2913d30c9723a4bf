"""What sources mean: expressions, conditions and statements done one by one.

Sources, packets, tables and clocks are not checked here: who calls has done so."""

from suresieves.doing import exchanged, pair_index
from suresieves.errors import NoSuchTable
from suresieves.words import OPS, combined, mixed, ones_in, related


class Scene:
    """What a source sees and changes while it is done."""

    def __init__(self, packet, tables, clock):
        self.packet = packet
        self.tables = tables
        self.clock = clock
        self.variables = {}

    def content(self, sort, t):
        """The cells or pairs of a table of this sort."""
        if t >= len(self.tables) or self.tables[t][0] != sort:
            raise NoSuchTable(t)
        return self.tables[t][2]

    def put_content(self, t, index, part):
        """Give a table another cell or pair at an index."""
        table = self.tables[t]
        table = exchanged(table, 2, exchanged(table[2], index, part))
        self.tables = exchanged(self.tables, t, table)


def byte_at(packet, index):
    """The byte with this index, 0 if there is none."""
    return packet[index] if index < len(packet) else 0


def pair_at(packet, index):
    """256 times a byte and the next one, 0 if there are not both."""
    return 256 * packet[index] + packet[index + 1] if index + 1 < len(packet) else 0


def table_worth(expression, scene):
    """The word that cell, value or has tells."""
    head, t, inner = expression
    word = worth(inner, scene)
    if head == "cell":
        cells = scene.content("array", t)
        return cells[word] if word < len(cells) else 0
    pairs = scene.content("pairs", t)
    index = pair_index(pairs, word)
    if head == "has":
        return 0 if index is None else 1
    return 0 if index is None else pairs[index][1]


def worth(expression, scene):
    """The word that an expression tells."""
    head = expression[0]
    if head == "number":
        return expression[1]
    if head == "name":
        return scene.variables.get(expression[1], 0)
    if head == "length":
        return len(scene.packet)
    if head == "clock":
        return scene.clock
    if head in ("cell", "value", "has"):
        return table_worth(expression, scene)
    word = worth(expression[1], scene)
    if head in OPS:
        return combined(head, word, worth(expression[2], scene))
    if head == "byte":
        return byte_at(scene.packet, word)
    if head == "pair":
        return pair_at(scene.packet, word)
    return ones_in(word) if head == "ones" else mixed(word)


def is_met(condition, scene):
    """Whether a condition is so."""
    head = condition[0]
    if head == "not":
        return not is_met(condition[1], scene)
    if head == "both":
        return is_met(condition[1], scene) and is_met(condition[2], scene)
    if head == "either":
        return is_met(condition[1], scene) or is_met(condition[2], scene)
    one = worth(condition[1], scene)
    return related(head, one, worth(condition[2], scene))


def do_let(statement, scene):
    scene.variables[statement[1]] = worth(statement[2], scene)


def do_write(statement, scene):
    index = worth(statement[1], scene)
    word = worth(statement[2], scene)
    if index < len(scene.packet):
        scene.packet = exchanged(scene.packet, index, word & 255)


def do_fill(statement, scene):
    index = worth(statement[2], scene)
    word = worth(statement[3], scene)
    if index < len(scene.content("array", statement[1])):
        scene.put_content(statement[1], index, word)


def do_count(statement, scene):
    index = worth(statement[2], scene)
    cells = scene.content("array", statement[1])
    if index < len(cells):
        scene.put_content(statement[1], index, (cells[index] + 1) & 65535)


def do_change(statement, scene):
    key = worth(statement[2], scene)
    word = worth(statement[3], scene)
    index = pair_index(scene.content("pairs", statement[1]), key)
    if index is not None:
        scene.put_content(statement[1], index, (key, word))


# The statements behind which it always goes on, and what does them.
DOERS = {
    "let": do_let,
    "write": do_write,
    "fill": do_fill,
    "count": do_count,
    "change": do_change,
}


def repeated(times, body, scene):
    """Do a body so many times: what ends the source, None if nothing does."""
    for _ in range(times):
        out = body_done(body, scene)
        if out == "leave":
            return None
        if out is not None:
            return out
    return None


def statement_done(statement, scene):
    """Do a statement: None if it goes on, "leave", or the word that ends the source."""
    head = statement[0]
    if head == "answer":
        return worth(statement[1], scene)
    if head == "leave":
        return "leave"
    if head == "if":
        return body_done(statement[2 if is_met(statement[1], scene) else 3], scene)
    if head == "repeat":
        return repeated(statement[1], statement[2], scene)
    do = DOERS[head]
    do(statement, scene)
    return None


def body_done(body, scene):
    """Do a body: None if it goes on, "leave", or the word that ends the source."""
    for statement in body:
        out = statement_done(statement, scene)
        if out is not None:
            return out
    return None


def outcome_of(source, packet, tables, clock):
    """(ANSWER, PACKET, TABLES) of a source."""
    scene = Scene(packet, tables, clock)
    word = body_done(source, scene)
    return 0 if word is None else word, scene.packet, scene.tables
