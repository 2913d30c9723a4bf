"""The judge: whether a translation is right for a form, by marks, way by way.

Forms and translations are not checked here: who calls has done so."""

from suresieves.effects import does_reach, is_sure, row_of
from suresieves.hostrows import BOXES, CELLS, HOST_OPS
from suresieves.marks import Marks

# Of what the condition mark of a when is made, and whether the condition holds where it is not 0.
CONDITION_MARKS = {
    "same": ("same", True),
    "other": ("same", False),
    "below": ("below", True),
    "from": ("below", False),
    "bit": ("and", True),
    "nobit": ("and", False),
}


def mark_of_one(marks, helper, x):
    """The mark of what a helper of one tells."""
    if helper == "ones":
        return marks.make("ones", x, x)
    if helper == "low":
        return marks.make("and", x, marks.of_number(255))
    mixed = marks.make("add", marks.make("times", x, marks.of_number(40503)), marks.of_number(1))
    return marks.make("and", mixed, marks.of_number(65535))


def mark_of_do(marks, op, x, y):
    """The mark of what comes of two words."""
    if op in ("and", "or", "xor"):
        return marks.make(op, x, y)
    if op in ("left", "right"):
        y = marks.make("and", y, marks.of_number(15))
    made = marks.make(op, x, y)
    return made if op == "right" else marks.make("and", made, marks.of_number(65535))


def mark_of_plain(marks, effect, values):
    """The mark of an effect that does not reach, None for one that is gone."""
    head = effect[0]
    if head == "get":
        return marks.standing(("box", effect[1]))
    if head == "slot":
        return marks.standing(("box", 8 + effect[1]))
    if head == "length":
        return marks.standing(("box", 28))
    if head == "clock":
        return marks.standing(("box", 29))
    if head == "number":
        return marks.of_number(effect[1])
    if head == "one":
        return mark_of_one(marks, effect[1], values[effect[2]])
    if head == "do":
        return mark_of_do(marks, effect[1], values[effect[2]], values[effect[3]])
    return None


def marks_of_form(marks, effects):
    """For each effect the mark of its value, None where it sets none."""
    values, got = [], 0
    for effect in effects:
        if not does_reach(effect):
            values.append(mark_of_plain(marks, effect, values))
        elif effect[0] in ("write", "fill", "change", "grow"):
            values.append(None)
        else:
            values.append(marks.standing(("got", got)))
            got += 1
    return values


class Trial:
    """A form and a translation beside one another, with the marks of the form."""

    def __init__(self, form, translation):
        self.form = form
        self.rows = translation[0]
        self.exits = translation[1]
        self.marks = Marks()
        self.value_marks = marks_of_form(self.marks, form[2])
        self.dues = [effect for effect in form[2] if does_reach(effect)]
        self.boundaries = [number for number, told in enumerate(form[3]) if told is not None]

    def boundary_marks(self, number):
        """The marks of registers, slots and counters that a boundary tells, in a row."""
        registers, slots, counters = self.form[3][number]
        wanted = []
        for k, value in enumerate(registers + slots + counters):
            wanted.append(self.marks.standing(("box", k)) if value is None else self.value_marks[value])
        return wanted


class Way:
    """A way through a translation: the marks of cells and boxes, and what is done so far."""

    def __init__(self, cells, boxes, assumed):
        self.row = 0
        self.cells = cells
        self.boxes = boxes
        self.assumed = assumed
        self.reached = 0
        self.told = 0
        self.got = 0

    def is_nonzero(self, marks, mark):
        """Whether a mark is not 0 on this way, None if that is not known."""
        worth = marks.worth(mark)
        return self.assumed.get(mark, None) if worth is None else worth != 0

    def parted(self, mark, is_nonzero, skipped):
        """A way that goes on from here, so many rows left out, a mark being taken to be 0 or not."""
        assumed = dict(self.assumed)
        assumed[mark] = is_nonzero
        way = Way(list(self.cells), list(self.boxes), assumed)
        way.row = self.row + skipped
        way.reached, way.told, way.got = self.reached, self.told, self.got
        return way


def first_way(marks):
    """The way from the first row on."""
    cells = [marks.standing(("cell", c)) for c in range(CELLS)]
    return Way(cells, [marks.standing(("box", k)) for k in range(BOXES)], {})


def spot_mark(trial, way, spot):
    """The mark of what a spot tells, as it is."""
    if spot[0] == "cell":
        return way.cells[spot[1]]
    return way.boxes[spot[1]] if spot[0] == "box" else trial.marks.of_number(spot[1])


def does_agree(trial, way, told, number, wanted, place, answer):
    """Whether an exit tells boundary number, with the marks wanted, a PLACE and ANSWER's mark."""
    if told[0] != number or told[2] != place or (told[3] is None) != (answer is None):
        return False
    if answer is not None and spot_mark(trial, way, told[3]) != answer:
        return False
    for k, spot in enumerate(told[4] + told[5] + told[6]):
        mark = trial.marks.standing(("box", k)) if spot is None else spot_mark(trial, way, spot)
        if mark != wanted[k]:
            return False
    return True


def does_leave(trial, way, x, why, number):
    """Whether exit x is left for this reason at a boundary ahead of the last one."""
    told = trial.exits[x]
    if told[1] != why:
        return False
    wanted = trial.boundary_marks(number)
    return does_agree(trial, way, told, number, wanted, trial.form[0] + number, None)


def is_most_right(trial, way, row):
    """Whether a row most is as it is due."""
    if way.told + 1 >= len(trial.boundaries):
        return False
    number, following = trial.boundaries[way.told:way.told + 2]
    done = len([effect for effect in trial.dues if row_of(effect) < number])
    if way.reached != done or row[1] != following - 1:
        return False
    return does_leave(trial, way, row[2], "most", number)


def is_reach_right(trial, way, row):
    """Whether a row that reaches is as the next effect is due."""
    if way.reached == len(trial.dues):
        return False
    effect = trial.dues[way.reached]
    parts = row[1:] if row[0] in ("write", "fill", "change", "grow") else row[2:]
    if effect[0] != row[0] or effect[2] != parts[1]:
        return False
    if way.cells[parts[0]] != trial.value_marks[effect[1]]:
        return False
    if row[0] in ("write", "fill", "change") and way.cells[parts[2]] != trial.value_marks[effect[3]]:
        return False
    x = row[-1]
    if is_sure(effect) or x is None:
        return is_sure(effect) and x is None
    return does_leave(trial, way, x, "fault", row_of(effect))


def condition_known(trial, way, wanted):
    """Whether the condition of END holds on this way, None where that is not known."""
    end, marks = trial.form[4], trial.marks
    if end[0] == "again":
        is_held_by_nonzero = True
        mark = marks.make("below", wanted[24 + end[1]], marks.of_number(end[2]))
    else:
        op, is_held_by_nonzero = CONDITION_MARKS[end[1]]
        mark = marks.make(op, trial.value_marks[end[2]], trial.value_marks[end[3]])
    is_nonzero = way.is_nonzero(marks, mark)
    return None if is_nonzero is None else is_nonzero == is_held_by_nonzero


def end_wanted(trial, way):
    """What is wanted at the last exit: marks, PLACE and ANSWER's mark; None where that is not known."""
    place, many, _, _, end = trial.form
    head, wanted, behind = end[0], trial.boundary_marks(many), place + many
    if head == "answer":
        return wanted, behind - 1, trial.value_marks[end[1]]
    if head in ("when", "again"):
        does_go = condition_known(trial, way, wanted)
        if does_go is None:
            return None
        if does_go and head == "again":
            at = 24 + end[1]
            wanted[at] = trial.marks.make("add", wanted[at], trial.marks.of_number(1))
    else:
        does_go = head == "jump"
    return wanted, end[-1] if does_go else behind, None


def is_leave_right(trial, way, x):
    """Whether a row leave is right: nothing is due any more, and the exit is that of the form's end."""
    if way.reached < len(trial.dues) or way.told + 1 < len(trial.boundaries):
        return False
    told, end = trial.exits[x], end_wanted(trial, way)
    if told[1] != "end" or end is None:
        return False
    wanted, place, answer = end
    return does_agree(trial, way, told, trial.form[1], wanted, place, answer)


def go_inside(trial, way, row):
    """Go over a row that takes and gives cells and boxes alone."""
    head, into, source = row[0], row[1], row[2]
    if head == "keep":
        way.boxes[into] = way.cells[source]
    elif head == "set":
        way.cells[into] = trial.marks.of_number(source)
    elif head == "move":
        way.cells[into] = way.cells[source]
    elif head == "take":
        way.cells[into] = way.boxes[source]
    else:
        way.cells[into] = trial.marks.make(head, way.cells[source], way.cells[row[3]])


def go_reaching(trial, way, row):
    """Go over a row that reaches, as it was due."""
    way.reached += 1
    if row[0] not in ("write", "fill", "change", "grow"):
        way.cells[row[1]] = trial.marks.standing(("got", way.got))
        way.got += 1


def ways_of_skip(trial, way, row):
    """The ways behind a skip."""
    mark = way.cells[row[1]]
    is_nonzero = way.is_nonzero(trial.marks, mark)
    if is_nonzero is None:
        return [way.parted(mark, False, 0), way.parted(mark, True, row[2])]
    if is_nonzero:
        way.row += row[2]
    return [way]


def ways_on(trial, way):
    """The ways behind the next row of a way, none behind a leave; None if the row is not right."""
    row = trial.rows[way.row]
    way.row += 1
    head = row[0]
    if head == "leave":
        return [] if is_leave_right(trial, way, row[1]) else None
    if head == "skip":
        return ways_of_skip(trial, way, row)
    if head == "most":
        if not is_most_right(trial, way, row):
            return None
        way.told += 1
    elif head in HOST_OPS or head in ("set", "move", "take", "keep"):
        go_inside(trial, way, row)
    else:
        if not is_reach_right(trial, way, row):
            return None
        go_reaching(trial, way, row)
    return [way]


def is_translation_taken(form, translation):
    """Whether the judge takes a translation for a form."""
    trial = Trial(form, translation)
    ways = [first_way(trial.marks)]
    while ways:
        behind = ways_on(trial, ways.pop())
        if behind is None:
            return False
        ways.extend(behind)
    return True
