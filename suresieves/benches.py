"""A translation in the making: which cells and boxes hold which values of a form.

Each value has a box of its own, 32 and its index. What is as it was when the host
was entered, and numbers, need no box: they can be told again.
Forms are not checked here: who calls has done so."""

from suresieves.doing import exchanged

FIRST_BOX = 32
COUNTERS_BOX = 24


def home_box(effect):
    """The box that tells a value as it was when the host was entered, None if none does."""
    if effect[0] == "get":
        return effect[1]
    if effect[0] == "slot":
        return 8 + effect[1]
    if effect[0] == "length":
        return 28
    return 29 if effect[0] == "clock" else None


def can_tell_again(effect):
    """Whether a value needs no box of its own."""
    return effect[0] == "number" or home_box(effect) is not None


class Bench:
    """The rows and exits so far, and what the cells hold."""

    def __init__(self, form, cells):
        self.place = form[0]
        self.effects = form[2]
        self.boundaries = form[3]
        self.rows = []
        self.exits = []
        self.held = [None] * cells
        self.boxed = [False] * len(form[2])
        self.turn = 0

    def put(self, *row):
        """A further row."""
        self.rows.append(row)

    def exit_number(self, told):
        """The number of an exit, which comes behind the others if it does not stand there."""
        if told not in self.exits:
            self.exits.append(told)
        return self.exits.index(told)

    def vacate(self, cell):
        """What a cell holds is kept in its box, if it is not there and could not be told again."""
        value = self.held[cell]
        if value is not None and not self.boxed[value] and not can_tell_again(self.effects[value]):
            self.put("keep", FIRST_BOX + value, cell)
            self.boxed[value] = True
        self.held[cell] = None

    def free_cell(self, *busy):
        """A cell for anything, none of the busy ones: an empty one, otherwise each in turn."""
        free = [cell for cell in range(len(self.held)) if cell not in busy]
        empty = [cell for cell in free if self.held[cell] is None]
        if empty:
            return empty[0]
        later = [cell for cell in free if cell >= self.turn]
        cell = later[0] if later else free[0]
        self.turn = cell + 1
        self.vacate(cell)
        return cell

    def fetched(self, value, *busy):
        """A cell that holds a value, fetched into one that is not busy if none does."""
        if value in self.held:
            return self.held.index(value)
        cell, effect = self.free_cell(*busy), self.effects[value]
        if effect[0] == "number":
            self.put("set", cell, effect[1])
        else:
            home = home_box(effect)
            self.put("take", cell, FIRST_BOX + value if home is None else home)
        self.held[cell] = value
        return cell

    def hold(self, cell, value):
        """A cell holds a value from now on."""
        self.held[cell] = value

    def spot(self, value):
        """The spot that tells a value now, None for what is as it was."""
        if value is None:
            return None
        effect = self.effects[value]
        if effect[0] == "number":
            return "number", effect[1]
        home = home_box(effect)
        if home is not None:
            return "box", home
        if value in self.held:
            return "cell", self.held.index(value)
        return "box", FIRST_BOX + value

    def spots(self, values):
        return tuple([self.spot(value) for value in values])

    def leaving(self, number, why):
        """The exit at a boundary ahead of END, WHY being told."""
        registers, slots, counters = self.boundaries[number]
        told = (number, why, self.place + number, None)
        return told + (self.spots(registers), self.spots(slots), self.spots(counters))

    def put_leave(self, place, answer):
        """Leave at the last boundary, with a PLACE, and ANSWER's value, None for none."""
        told = self.leaving(len(self.boundaries) - 1, "end")
        told = exchanged(exchanged(told, 2, place), 3, self.spot(answer))
        self.put("leave", self.exit_number(told))

    def put_leave_again(self, place, counter, cell):
        """Leave at the last boundary, with a PLACE, a counter being what a cell holds."""
        told = exchanged(self.leaving(len(self.boundaries) - 1, "end"), 2, place)
        self.put("leave", self.exit_number(exchanged(told, 6, exchanged(told[6], counter, ("cell", cell)))))
