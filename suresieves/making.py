"""Translations made of forms: the effects in order, each value into a cell."""

from suresieves.benches import COUNTERS_BOX, Bench
from suresieves.checks import is_between
from suresieves.effects import does_reach, is_sure, row_of
from suresieves.errors import InvalidNumber
from suresieves.forms import need_form
from suresieves.judging import CONDITION_MARKS


def need_cells(cells):
    """Raise InvalidNumber for no whole number from 4 to 12."""
    if not is_between(cells, 4, 12):
        raise InvalidNumber(cells)


def put_word(bench, cell):
    """Bring what a cell holds below 65536."""
    limit = bench.free_cell(cell)
    bench.put("set", limit, 65535)
    bench.put("and", cell, cell, limit)


def put_one(bench, k, effect):
    """The rows of what a helper of one tells."""
    _, helper, x = effect
    source = bench.fetched(x)
    into = bench.free_cell(source)
    if helper == "ones":
        bench.put("ones", into, source, source)
    elif helper == "low":
        bench.put("set", into, 255)
        bench.put("and", into, source, into)
    else:
        other = bench.free_cell(source, into)
        bench.put("set", other, 40503)
        bench.put("times", into, source, other)
        bench.put("set", other, 1)
        bench.put("add", into, into, other)
        put_word(bench, into)
    bench.hold(into, k)


def put_do(bench, k, effect):
    """The rows of what comes of two values."""
    _, op, x, y = effect
    one = bench.fetched(x)
    two = bench.fetched(y, one)
    into = bench.free_cell(one, two)
    if op in ("left", "right"):
        bench.put("set", into, 15)
        bench.put("and", into, two, into)
        bench.put(op, into, one, into)
    else:
        bench.put(op, into, one, two)
    if op in ("add", "sub", "left"):
        put_word(bench, into)
    bench.hold(into, k)


def put_reach(bench, k, effect):
    """The row of a reading or change, and what it fetches."""
    head, x, where = effect[:3]
    cell = bench.fetched(x)
    into = None
    if head in ("write", "fill", "change"):
        parts = (head, cell, where, bench.fetched(effect[3], cell))
    elif head == "grow":
        parts = (head, cell, where)
    else:
        into = bench.free_cell(cell)
        parts = (head, into, cell, where)
    way = None if is_sure(effect) else bench.exit_number(bench.leaving(row_of(effect), "fault"))
    bench.put(*parts, way)
    if into is not None:
        bench.hold(into, k)


def put_mosts(bench, due, number):
    """The rows most of the boundaries up to a number that are due; those that are due then."""
    while len(due) > 1 and due[0] <= number:
        bench.put("most", due[1] - 1, bench.exit_number(bench.leaving(due[0], "most")))
        due = due[1:]
    return due


def put_effects(bench, form):
    """The rows of all effects, and ahead of them those of most."""
    due = [number for number, told in enumerate(form[3]) if told is not None]
    for k, effect in enumerate(form[2]):
        if does_reach(effect):
            due = put_mosts(bench, due, row_of(effect))
            put_reach(bench, k, effect)
        elif effect[0] == "one":
            put_one(bench, k, effect)
        elif effect[0] == "do":
            put_do(bench, k, effect)
    put_mosts(bench, due, form[1])


def put_when(bench, end, behind):
    """The rows of an END when: it goes on, or to its place."""
    op, is_held_by_nonzero = CONDITION_MARKS[end[1]]
    one = bench.fetched(end[2])
    two = bench.fetched(end[3], one)
    into = bench.free_cell(one, two)
    bench.put(op, into, one, two)
    bench.put("skip", into, 1)
    bench.put_leave(behind if is_held_by_nonzero else end[4], None)
    bench.put_leave(end[4] if is_held_by_nonzero else behind, None)


def put_again(bench, end, behind):
    """The rows of an END again: it goes on, or to its place with the counter grown by 1."""
    _, counter, times, d = end
    value = bench.boundaries[-1][2][counter]
    if value is None:
        one = bench.free_cell()
        bench.put("take", one, COUNTERS_BOX + counter)
    else:
        one = bench.fetched(value)
    grown = bench.free_cell(one)
    into = bench.free_cell(one, grown)
    bench.put("set", grown, times)
    bench.put("below", into, one, grown)
    bench.put("set", grown, 1)
    bench.put("add", grown, one, grown)
    bench.put("skip", into, 1)
    bench.put_leave(behind, None)
    bench.put_leave_again(d, counter, grown)


def put_end(bench, form):
    """The rows of END."""
    end, behind = form[4], form[0] + form[1]
    if end[0] == "when":
        put_when(bench, end, behind)
    elif end[0] == "again":
        put_again(bench, end, behind)
    elif end[0] == "answer":
        bench.put_leave(behind - 1, end[1])
    else:
        bench.put_leave(end[1] if end[0] == "jump" else behind, None)


def translation_made(form, cells):
    """A translation within so many cells, all arguments being right."""
    bench = Bench(form, cells)
    put_effects(bench, form)
    put_end(bench, form)
    return tuple(bench.rows), tuple(bench.exits)


def made(form, cells):
    """A translation that the judge takes for a form, within so many cells."""
    need_form(form)
    need_cells(cells)
    return translation_made(form, cells)
