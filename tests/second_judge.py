"""A second judge: what each way through a translation does, in a row, beside what the form is to do."""

TOP = 4294967295
CHANGES = ("write", "fill", "change", "grow")
READINGS = ("byte", "pair", "cell", "find", "value")
CONDITIONS = {"same": ("same", True), "other": ("same", False), "below": ("below", True), "from": ("below", False),
              "bit": ("and", True), "nobit": ("and", False)}


class Terms:
    """Marks that hold one another, each of them once."""

    def __init__(self):
        self.known = {}
        self.bounds = {}

    def term(self, *parts):
        key = tuple(part if not isinstance(part, tuple) else id(part) for part in parts)
        return self.known.setdefault(key, parts)

    def number(self, n):
        return self.term("number", n)

    def reckon(self, op, one, two):
        out = {
            "add": one + two, "sub": one - two, "times": one * two, "and": one & two, "or": one | two, "xor": one ^ two,
            "left": one << two % 32, "right": one >> two % 32, "same": int(one == two), "below": int(one < two),
            "ones": bin(one & two).count("1"),
        }[op]
        return out % (TOP + 1)

    def bound(self, term):
        if id(term) not in self.bounds:
            self.bounds[id(term)] = self.fresh_bound(term)
        return self.bounds[id(term)]

    def fresh_bound(self, term):
        head = term[0]
        if head == "number":
            return term[1]
        if head == "got":
            return 65535
        if head == "cell":
            return TOP
        if head == "box":
            return ([65535] * 24 + [100] * 4 + [256, 65535] + [TOP] * 82)[term[1]]
        one, two = self.bound(term[1]), self.bound(term[2])
        shift = term[2][1] % 32 if term[2][0] == "number" else None
        if head == "ones":
            return next(many for many in range(40) if 2 ** many > min(one, two))
        if head in ("or", "xor"):
            return next(2 ** many - 1 for many in range(40) if 2 ** many - 1 >= max(one, two))
        told = {
            "and": min(one, two), "add": one + two, "times": one * two, "left": TOP if shift is None else one * 2 ** (shift or 0),
            "right": one if shift is None else one // 2 ** shift, "same": 1, "below": 1, "sub": TOP,
        }[head]
        return told if told <= TOP else TOP

    def make(self, op, one, two):
        if one[0] == "number" and two[0] == "number":
            return self.number(self.reckon(op, one[1], two[1]))
        if two == ("number", 0) and op in ("add", "sub", "or", "xor", "left", "right"):
            return one
        if op == "and" and two[0] == "number" and two[1] in [2 ** many - 1 for many in range(33)] and self.bound(one) <= two[1]:
            return one
        return self.term(op, one, two)


def value_terms(terms, effects):
    """The terms of a form's values."""
    out, got = [], 0
    for effect in effects:
        head, term = effect[0], None
        if head in ("get", "slot", "length", "clock"):
            base = {"get": 0, "slot": 8, "length": 28, "clock": 29}[head]
            term = terms.term("box", base + (effect[1] if len(effect) > 1 else 0))
        elif head == "number":
            term = terms.number(effect[1])
        elif head in READINGS:
            term, got = terms.term("got", got), got + 1
        elif head == "one":
            x = out[effect[2]]
            if effect[1] == "ones":
                term = terms.make("ones", x, x)
            elif effect[1] == "low":
                term = terms.make("and", x, terms.number(255))
            else:
                term = terms.make("add", terms.make("times", x, terms.number(40503)), terms.number(1))
                term = terms.make("and", term, terms.number(65535))
        elif head == "do":
            op, x, y = effect[1], out[effect[2]], out[effect[3]]
            if op in ("left", "right"):
                y = terms.make("and", y, terms.number(15))
            term = terms.make(op, x, y)
            if op in ("add", "sub", "left"):
                term = terms.make("and", term, terms.number(65535))
        out.append(term)
    return out


class Judge:
    def __init__(self, form, translation):
        self.terms = Terms()
        self.place, self.many, self.effects, self.boundaries, self.end = form
        self.rows, self.exits = translation
        self.values = value_terms(self.terms, self.effects)

    def boundary(self, number):
        parts = [value for part in self.boundaries[number] for value in part]
        return [self.terms.term("box", k) if value is None else self.values[value] for k, value in enumerate(parts)]

    def plain_exit(self, number, why):
        return (number, why, self.place + number, None, self.boundary(number))

    def expected(self):
        """What is to be done, in order, ahead of the leave."""
        numbers = [number for number, told in enumerate(self.boundaries) if told is not None]
        out = []
        for row in range(self.many):
            if row in numbers:
                following = numbers[numbers.index(row) + 1]
                out.append(("most", following - 1, self.plain_exit(row, "most")))
            for effect in self.effects:
                if effect[0] in READINGS + CHANGES and effect[-2] == row:
                    y = self.values[effect[3]] if effect[0] in ("write", "fill", "change") else None
                    way = None if effect[-1] else self.plain_exit(row, "fault")
                    out.append((effect[0], self.values[effect[1]], effect[2], y, way))
        return out

    def last(self, taken):
        """What the last exit is to be, terms taken to be 0 or not; None where that is not known."""
        marks, place, answer, head = self.boundary(self.many), self.place + self.many, None, self.end[0]
        if head == "jump":
            place = self.end[1]
        elif head == "answer":
            place, answer = place - 1, self.values[self.end[1]]
        elif head != "on":
            if head == "when":
                op, holding = CONDITIONS[self.end[1]]
                term = self.terms.make(op, self.values[self.end[2]], self.values[self.end[3]])
            else:
                at, holding = 24 + self.end[1], True
                term = self.terms.make("below", marks[at], self.terms.number(self.end[2]))
            known = self.truth(term, taken)
            if known is None:
                return None
            if known == holding:
                place = self.end[-1]
                if head == "again":
                    marks[at] = self.terms.make("add", marks[at], self.terms.number(1))
        return (self.many, "end", place, answer, marks)

    def truth(self, term, taken):
        return bool(term[1]) if term[0] == "number" else taken.get(id(term))

    def spot(self, spot, cells, boxes):
        if spot[0] == "number":
            return self.terms.number(spot[1])
        return cells[spot[1]] if spot[0] == "cell" else boxes[spot[1]]

    def shown(self, x, cells, boxes):
        """What an exit tells here."""
        if x is None:
            return None
        many, why, place, answer, *parts = self.exits[x]
        spots = [spot for part in parts for spot in part]
        marks = [self.terms.term("box", k) if spot is None else self.spot(spot, cells, boxes) for k, spot in enumerate(spots)]
        return (many, why, place, None if answer is None else self.spot(answer, cells, boxes), marks)

    def takes(self):
        cells = [self.terms.term("cell", c) for c in range(12)]
        boxes = [self.terms.term("box", k) for k in range(112)]
        return self.goes(0, cells, boxes, {}, [], 0)

    def goes(self, at, cells, boxes, taken, done, got):
        """Whether all ways from a row on do what is expected."""
        cells, boxes, done = list(cells), list(boxes), list(done)
        while True:
            row = self.rows[at]
            at += 1
            head = row[0]
            if head == "leave":
                return done == self.expected() and self.shown(row[1], cells, boxes) == self.last(taken)
            if head == "skip":
                term = cells[row[1]]
                known = self.truth(term, taken)
                ways = (False, True) if known is None else (known,)
                return all([self.goes(at + (row[2] if way else 0), cells, boxes, {**taken, id(term): way}, done, got) for way in ways])
            if head == "most":
                done.append(("most", row[1], self.shown(row[2], cells, boxes)))
            elif head in CHANGES:
                y = cells[row[3]] if head != "grow" else None
                done.append((head, cells[row[1]], row[2], y, self.shown(row[-1], cells, boxes)))
            elif head in READINGS:
                done.append((head, cells[row[2]], row[3], None, self.shown(row[-1], cells, boxes)))
                if got == 80:
                    return False
                cells[row[1]] = self.terms.term("got", got)
                got += 1
            elif head == "set":
                cells[row[1]] = self.terms.number(row[2])
            elif head == "move":
                cells[row[1]] = cells[row[2]]
            elif head == "take":
                cells[row[1]] = boxes[row[2]]
            elif head == "keep":
                boxes[row[1]] = cells[row[2]]
            else:
                cells[row[1]] = self.terms.make(head, cells[row[2]], cells[row[3]])


def takes_too(form, translation):
    """Whether the second judge takes a translation for a form."""
    return Judge(form, translation).takes()
