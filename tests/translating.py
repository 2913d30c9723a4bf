"""Translations of forms, made plainly: each value lies in box 32 and its index."""

KINDS_OF_CHANGE = ("write", "fill", "change", "grow")
REACHING = KINDS_OF_CHANGE + ("byte", "pair", "cell", "find", "value")
CONDITIONS = {"same": ("same", 1), "other": ("same", 0), "below": ("below", 1), "from": ("below", 0), "bit": ("and", 1), "nobit": ("and", 0)}


class Plain:
    """A translation in the making."""

    def __init__(self, form):
        self.place, self.many, self.effects, self.boundaries, self.end = form
        self.rows, self.exits, self.told = [], [], 0

    def exit(self, number, why, place=None, answer=None, counters=None):
        spots = [tuple(None if value is None else ("box", 32 + value) for value in part) for part in self.boundaries[number]]
        if counters:
            spots[2] = tuple(counters.get(k, spot) for k, spot in enumerate(spots[2]))
        told = (number, why, self.place + number if place is None else place, answer, *spots)
        if told not in self.exits:
            self.exits.append(told)
        return self.exits.index(told)

    def mosts(self, row):
        """Rows most for all told boundaries up to a row that are due."""
        numbers = [number for number, told in enumerate(self.boundaries) if told is not None]
        while self.told + 1 < len(numbers) and numbers[self.told] <= row:
            self.rows.append(("most", numbers[self.told + 1] - 1, self.exit(numbers[self.told], "most")))
            self.told += 1

    def take(self, *values):
        for cell, value in enumerate(values):
            self.rows.append(("take", cell, 32 + value))

    def put(self, *rows):
        self.rows.extend(rows)

    def reach(self, effect):
        row, sure = effect[-2:]
        self.mosts(row)
        x = None if sure else self.exit(row, "fault")
        if effect[0] == "grow":
            self.take(effect[1])
            self.put(("grow", 0, effect[2], x))
        elif effect[0] in KINDS_OF_CHANGE:
            self.take(effect[1], effect[3])
            self.put((effect[0], 0, effect[2], 1, x))
        else:
            self.take(effect[1])
            self.put((effect[0], 0, 0, effect[2], x))

    def plain(self, effect):
        head = effect[0]
        if head == "number":
            self.put(("set", 0, effect[1]))
        elif head == "one":
            self.take(effect[2])
            self.put(*{
                "ones": (("ones", 0, 0, 0),), "low": (("set", 1, 255), ("and", 0, 0, 1)),
                "mix": (("set", 1, 40503), ("times", 0, 0, 1), ("set", 1, 1), ("add", 0, 0, 1), ("set", 1, 65535), ("and", 0, 0, 1)),
            }[effect[1]])
        elif head == "do":
            self.take(effect[2], effect[3])
            if effect[1] in ("left", "right"):
                self.put(("set", 2, 15), ("and", 1, 1, 2))
            self.put((effect[1], 0, 0, 1))
            if effect[1] in ("add", "sub", "left"):
                self.put(("set", 2, 65535), ("and", 0, 0, 2))
        elif head != "gone":
            self.put(("take", 0, {"get": 0, "slot": 8, "length": 28, "clock": 29}[head] + (effect[1] if len(effect) > 1 else 0)))

    def ends(self):
        last, head = self.place + self.many, self.end[0]
        if head == "answer":
            self.put(("leave", self.exit(self.many, "end", last - 1, ("box", 32 + self.end[1]))))
        elif head in ("on", "jump"):
            self.put(("leave", self.exit(self.many, "end", self.end[1] if head == "jump" else last)))
        elif head == "when":
            op, holding = CONDITIONS[self.end[1]]
            self.take(self.end[2], self.end[3])
            self.put((op, 2, 0, 1), ("skip", 2, 1))
            places = (last, self.end[4]) if holding else (self.end[4], last)
            self.put(*(("leave", self.exit(self.many, "end", place)) for place in places))
        else:
            _, counter, times, d = self.end
            value = self.boundaries[-1][2][counter]
            self.put(("take", 0, 24 + counter if value is None else 32 + value), ("set", 1, times), ("below", 2, 0, 1))
            self.put(("set", 1, 1), ("add", 3, 0, 1), ("skip", 2, 1), ("leave", self.exit(self.many, "end", last)))
            self.put(("leave", self.exit(self.many, "end", d, None, {counter: ("cell", 3)})))

    def translation(self):
        for k, effect in enumerate(self.effects):
            if effect[0] in REACHING:
                self.reach(effect)
            else:
                self.plain(effect)
            if effect[0] != "gone" and effect[0] not in KINDS_OF_CHANGE:
                self.put(("keep", 32 + k, 0))
        self.mosts(self.many)
        self.ends()
        return tuple(self.rows), tuple(self.exits)


def plainly(form):
    """A translation of a form."""
    return Plain(form).translation()
