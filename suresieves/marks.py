"""Marks: what cells, boxes and values hold, told for all runs at once."""

from suresieves.checks import is_between
from suresieves.hosting import host_number
from suresieves.hostrows import BOXES, CELLS, HOST_OPS, MOST_NUMBER
from suresieves.maps import number_at
from suresieves.words import figures_from

MOST_READINGS = 80


def is_mark(value, many):
    """Whether a value is a mark with so many marks ahead of it."""
    if not isinstance(value, tuple) or not value or not isinstance(value[0], str):
        return False
    if len(value) == 3:
        return value[0] in HOST_OPS and is_between(value[1], 0, many - 1) and is_between(value[2], 0, many - 1)
    if len(value) != 2:
        return False
    if value[0] == "number":
        return is_between(value[1], 0, MOST_NUMBER)
    if value[0] == "cell":
        return is_between(value[1], 0, CELLS - 1)
    if value[0] == "box":
        return is_between(value[1], 0, BOXES - 1)
    return value[0] == "got" and is_between(value[1], 0, MOST_READINGS - 1)


def box_bound(k):
    """Up to which number a box goes that is as it is when the host is entered."""
    if k <= 23 or k == 29:
        return 65535
    if k <= 27:
        return 100
    return 256 if k == 28 else MOST_NUMBER


def is_full(number):
    """Whether a number is a 2^L - 1."""
    return number & (number + 1) == 0


class Marks:
    """Marks that no other stands beside twice, each with its bound."""

    def __init__(self):
        self.told = []
        self.bounds = []
        self.places = {}

    def standing(self, mark):
        """The number of a mark, which comes behind the others if it does not stand there."""
        if mark not in self.places:
            self.bounds.append(self.bound(mark))
            self.places[mark] = len(self.told)
            self.told.append(mark)
        return self.places[mark]

    def of_number(self, worth):
        """The number of the mark of a number."""
        return self.standing(("number", worth))

    def worth(self, one):
        """The number that a mark is, None for another mark."""
        mark = self.told[one]
        return mark[1] if mark[0] == "number" else None

    def bound(self, mark):
        """The bound of a mark, those that it names standing there."""
        head = mark[0]
        if head == "number":
            return mark[1]
        if head == "got":
            return 65535
        if head == "box":
            return box_bound(mark[1])
        return MOST_NUMBER if head == "cell" else self.made_bound(head, mark[1], mark[2])

    def made_bound(self, op, one, two):
        """The bound of what is made of two marks."""
        first, second, shift = self.bounds[one], self.bounds[two], self.worth(two)
        if op in ("same", "below"):
            return 1
        if op == "and":
            return min(first, second)
        if op == "ones":
            return min(first, second).bit_length()
        if op in ("or", "xor"):
            return figures_from(max(first, second))
        if op == "right":
            return first if shift is None else first >> (shift & 31)
        bound = MOST_NUMBER
        if op == "add":
            bound = first + second
        elif op == "times":
            bound = first * second
        elif op == "left" and shift is not None:
            bound = first << (shift & 31)
        return min(bound, MOST_NUMBER)

    def make(self, op, one, two):
        """The number of the mark that is made of OP and two marks."""
        first, second = self.worth(one), self.worth(two)
        if first is not None and second is not None:
            return self.of_number(host_number(op, first, second))
        if second == 0 and op in ("add", "sub", "or", "xor", "left", "right"):
            return one
        if op == "and" and second is not None and is_full(second) and self.bounds[one] <= second:
            return one
        return self.standing((op, one, two))


def marks_of(told):
    """Marks as they are told, none of them twice."""
    marks = Marks()
    for mark in told:
        marks.standing(mark)
    return marks


def worths_of(told, host, words):
    """The worths of marks beside a HOST and the words that were read, 0 behind the last one."""
    worths = []
    for mark in told:
        if mark[0] in HOST_OPS:
            worths.append(host_number(mark[0], worths[mark[1]], worths[mark[2]]))
        elif mark[0] == "got":
            worths.append(words[mark[1]] if mark[1] < len(words) else 0)
        else:
            worths.append(number_at(mark, host))
    return worths
