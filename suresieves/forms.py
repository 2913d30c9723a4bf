"""Forms of blocks: made, and worked in runs."""

from suresieves.blocks import need_limit, rows_at
from suresieves.checks import is_between
from suresieves.errors import InvalidForm, InvalidNumber, NotThere
from suresieves.formchecks import is_sound_form
from suresieves.forming import formed
from suresieves.runs import need_place, need_run, need_sieve
from suresieves.working import run_at_boundary, worked_form


def is_form(value):
    """Whether a value is a form."""
    return is_sound_form(value)


def need_form(form):
    """Raise InvalidForm for what is no form."""
    if not is_form(form):
        raise InvalidForm(form)


def need_most(most):
    """Raise InvalidNumber for no whole number from 0 to 12."""
    if not is_between(most, 0, 12):
        raise InvalidNumber(most)


def need_there(run, form):
    """Raise NotThere for a run that has ended or is at another place than a form's."""
    if run[8] is not None or run[3] != form[0]:
        raise NotThere()


def form_of(sieve, place, limit):
    """The form of the block at a place, None if there is no such place."""
    need_sieve(sieve)
    need_place(place)
    need_limit(limit)
    rows = rows_at(sieve, place, limit)
    return formed(place, rows) if rows else None


def worked(run, form, most):
    """How a form is left that is worked for at most so many rows, and the run then."""
    need_run(run)
    need_form(form)
    need_most(most)
    need_there(run, form)
    return worked_form(run, form, most)


def at_boundary(run, form, number):
    """The run at a boundary, None if it is not told, or if the form is left ahead of it."""
    need_run(run)
    need_form(form)
    if not is_between(number, 0, form[1]):
        raise InvalidNumber(number)
    need_there(run, form)
    return run_at_boundary(run, form, number)
