"""The host, and translations that are gone through in it."""

from suresieves.errors import InvalidHost, InvalidRow, InvalidTranslation
from suresieves.forms import need_most
from suresieves.hosting import done_inside, host_gone
from suresieves.hostrows import is_inner_row, is_sound_host, is_sound_translation
from suresieves.runs import need_run


def is_host(value):
    """Whether a value is a HOST."""
    return is_sound_host(value)


def is_translation(value):
    """Whether a value is a translation."""
    return is_sound_translation(value)


def need_host(host):
    """Raise InvalidHost for what is no HOST."""
    if not is_host(host):
        raise InvalidHost(host)


def need_translation(translation):
    """Raise InvalidTranslation for what is no translation."""
    if not is_translation(translation):
        raise InvalidTranslation(translation)


def host_row(row, host):
    """The HOST behind a row that takes and gives cells and boxes alone."""
    if not is_inner_row(row):
        raise InvalidRow(row)
    need_host(host)
    return done_inside(row, host)


def run_host(translation, host, run, most):
    """(HOST, RUN, x) where a translation, gone through for at most so many rows, is left by exit x."""
    need_translation(translation)
    need_host(host)
    need_run(run)
    need_most(most)
    return host_gone(translation, host, run, most)
