"""Blocks made into forms, row by row."""

from suresieves.doing import exchanged


class Sketch:
    """A form in the making: the effects so far, and what a boundary would tell."""

    def __init__(self):
        self.effects = []
        self.registers = (None,) * 8
        self.slots = (None,) * 16
        self.counters = (None,) * 4
        self.end = ("on",)

    def put(self, *effect):
        """The value that a further effect sets, if it sets one."""
        self.effects.append(effect)
        return len(self.effects) - 1

    def taken(self, a):
        """The value in register a, got first if it is as at the start."""
        if self.registers[a] is None:
            self.hold(a, self.put("get", a))
        return self.registers[a]

    def slot_taken(self, k):
        """The value in slot k, got first if it is as at the start."""
        if self.slots[k] is None:
            self.keep(k, self.put("slot", k))
        return self.slots[k]

    def hold(self, a, value):
        """Register a is a value from now on."""
        self.registers = exchanged(self.registers, a, value)

    def keep(self, k, value):
        """Slot k is a value from now on."""
        self.slots = exchanged(self.slots, k, value)

    def begin(self, counter, value):
        """A counter is a value from now on."""
        self.counters = exchanged(self.counters, counter, value)

    def boundary(self):
        """What the boundary tells that is here."""
        return self.registers, self.slots, self.counters


def form_combined(sketch, row, number):
    one = sketch.taken(row[1])
    sketch.hold(row[1], sketch.put("do", row[0], one, sketch.taken(row[2])))


def form_combined_number(sketch, row, number):
    one = sketch.taken(row[1])
    sketch.hold(row[1], sketch.put("do", row[0][:-1], one, sketch.put("number", row[2])))


def form_set(sketch, row, number):
    sketch.hold(row[1], sketch.put("number", row[2]))


def form_move(sketch, row, number):
    sketch.hold(row[1], sketch.taken(row[2]))


def form_length(sketch, row, number):
    sketch.hold(row[1], sketch.put("length"))


def form_take(sketch, row, number):
    sketch.hold(row[1], sketch.slot_taken(row[2]))


def form_keep(sketch, row, number):
    sketch.keep(row[2], sketch.taken(row[1]))


def form_bytes(sketch, row, number):
    head, a, b, s = row
    sketch.hold(a, sketch.put(head, sketch.taken(b), s, number, 0))


def form_write(sketch, row, number):
    _, a, b, s = row
    worth = sketch.taken(a)
    sketch.put("write", sketch.taken(b), s, worth, number, 0)


def form_read(sketch, row, number):
    head, a, t, b = row
    sketch.hold(a, sketch.put(head, sketch.taken(b), t, number, 0))


def form_fill(sketch, row, number):
    head, a, t, b = row
    worth = sketch.taken(a)
    sketch.put(head, sketch.taken(b), t, worth, number, 0)


def form_count(sketch, row, number):
    _, t, b = row
    sketch.put("grow", sketch.taken(b), t, number, 0)


def form_ask(sketch, row, number):
    _, a, helper, b = row
    if helper == "clock":
        sketch.hold(a, sketch.put("clock"))
    else:
        sketch.hold(a, sketch.put("one", helper, sketch.taken(b)))


def form_begin(sketch, row, number):
    sketch.begin(row[1], sketch.put("number", 0))


def form_jump(sketch, row, number):
    sketch.end = row


def form_when(sketch, row, number):
    _, condition, a, b, d = row
    one = sketch.taken(a)
    sketch.end = ("when", condition, one, sketch.taken(b), d)


def form_whenn(sketch, row, number):
    _, condition, a, n, d = row
    one = sketch.taken(a)
    sketch.end = ("when", condition, one, sketch.put("number", n), d)


def form_answer(sketch, row, number):
    sketch.end = ("answer", sketch.taken(row[1]))


# What each row makes of a form in the making, number being its own in the block.
FORMED = {
    "set": form_set,
    "move": form_move,
    "length": form_length,
    "take": form_take,
    "keep": form_keep,
    "add": form_combined,
    "sub": form_combined,
    "and": form_combined,
    "or": form_combined,
    "xor": form_combined,
    "left": form_combined,
    "right": form_combined,
    "addn": form_combined_number,
    "andn": form_combined_number,
    "orn": form_combined_number,
    "xorn": form_combined_number,
    "leftn": form_combined_number,
    "rightn": form_combined_number,
    "byte": form_bytes,
    "pair": form_bytes,
    "write": form_write,
    "cell": form_read,
    "find": form_read,
    "value": form_read,
    "fill": form_fill,
    "change": form_fill,
    "count": form_count,
    "ask": form_ask,
    "begin": form_begin,
    "jump": form_jump,
    "again": form_jump,
    "when": form_when,
    "whenn": form_whenn,
    "answer": form_answer,
}


def formed(place, rows):
    """The form of a block of at least one row at a place."""
    sketch, boundaries = Sketch(), []
    for number, row in enumerate(rows):
        boundaries.append(sketch.boundary())
        form_row = FORMED[row[0]]
        form_row(sketch, row, number)
    boundaries.append(sketch.boundary())
    return place, len(rows), tuple(sketch.effects), tuple(boundaries), sketch.end
