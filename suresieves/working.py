"""Forms worked in runs that are at their place and have not ended.

Runs and forms are not checked here: who calls has done so."""

from suresieves.doing import exchanged
from suresieves.effects import does_reach, is_sure, row_of
from suresieves.reaching import changing, reading
from suresieves.words import combined, mixed, ones_in, related


def helped(helper, word):
    """What a helper of one tells of a word."""
    if helper == "ones":
        return ones_in(word)
    return mixed(word) if helper == "mix" else word & 255


def plain_word(effect, values, run):
    """The word that an effect sets that does not reach, 0 for one that is gone."""
    head = effect[0]
    if head == "get":
        return run[0][effect[1]]
    if head == "slot":
        return run[1][effect[1]]
    if head == "number":
        return effect[1]
    if head == "length":
        return len(run[4])
    if head == "clock":
        return run[6]
    if head == "one":
        return helped(effect[1], values[effect[2]])
    if head == "do":
        return combined(effect[1], values[effect[2]], values[effect[3]])
    return 0


def reached(effect, values, run):
    """The word and the run behind an effect that reaches, None where it would fault."""
    head, x, where = effect[0], values[effect[1]], effect[2]
    if head in ("write", "fill", "change"):
        run, word = changing(head, run, x, where, values[effect[3]]), 0
    elif head == "grow":
        run, word = changing(head, run, x, where, None), 0
    else:
        word = reading(head, run, x, where)
    return None if run is None or word is None else (word, run)


def gone_through(run, form, stop):
    """The values, the run with what is changed, and the row that ends it, None for none.

    Nothing of rows from stop on is done. Registers, slots and all else stay as at the start."""
    values = []
    for effect in form[2]:
        if not does_reach(effect):
            values.append(plain_word(effect, values, run))
            continue
        if row_of(effect) >= stop:
            break
        behind = reached(effect, values, run)
        if behind is None and not is_sure(effect):
            return values, run, row_of(effect)
        word, run = (0, run) if behind is None else behind
        values.append(word)
    return values, run, None


def told_words(told, values, words):
    """The words that a boundary tells, None standing for what is as at the start."""
    return tuple([word if value is None else values[value] for value, word in zip(told, words)])


def run_at(run, form, number, values):
    """A run at a told boundary, packet and tables being as changed, all else as at the start."""
    registers, slots, counters = form[3][number]
    behind = (
        told_words(registers, values, run[0]),
        told_words(slots, values, run[1]),
        told_words(counters, values, run[2]),
        run[3] + number,
    ) + run[4:7] + (run[7] + number,) + run[8:]
    return ended(behind, form[4], values) if number == form[1] else behind


def ended(run, end, values):
    """A run at the last boundary, gone where END tells; at first its place is the one behind."""
    head, place = end[0], run[3]
    if head == "answer":
        return exchanged(exchanged(run, 3, place - 1), 8, ("answer", values[end[1]]))
    if head == "jump":
        return exchanged(run, 3, end[1])
    if head == "when" and related(end[1], values[end[2]], values[end[3]]):
        return exchanged(run, 3, end[4])
    if head == "again" and run[2][end[1]] < end[2]:
        counters = exchanged(run[2], end[1], run[2][end[1]] + 1)
        return exchanged(exchanged(run, 2, counters), 3, end[3])
    return run


def greatest_told(form, most):
    """The greatest told boundary up to a number."""
    return max([number for number, told in enumerate(form[3][:most + 1]) if told is not None])


def worked_form(run, form, most):
    """How a form is left that is worked for at most so many rows, and the run then."""
    many = form[1]
    stop, word = (many, "done") if most >= many else (greatest_told(form, most), "most")
    values, changed, row = gone_through(run, form, stop)
    if row is not None:
        stop, word = row, "fault"
    return (word, stop), run_at(changed, form, stop, values)


def run_at_boundary(run, form, number):
    """The run at a boundary, None if it is not told, or if the form is left ahead of it."""
    if form[3][number] is None:
        return None
    values, changed, row = gone_through(run, form, number)
    return None if row is not None else run_at(changed, form, number, values)
