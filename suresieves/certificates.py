"""Certificates: claims with papers that the checker accepts."""

from suresieves.chains import joined
from suresieves.checks import is_between
from suresieves.compiling import compiled
from suresieves.courses import Course
from suresieves.deeds import is_shown, need_deeds, need_settings
from suresieves.errors import InvalidNumber, NoBlock
from suresieves.flows import beginning_flow
from suresieves.forms import form_of
from suresieves.inspector import verdict
from suresieves.linking import need_chain, need_coming
from suresieves.making import made
from suresieves.maps import passed
from suresieves.packets import need_tables
from suresieves.rewritings import better
from suresieves.runners import started_runner
from suresieves.sources import meant

MOST_CLAIMED = 400


def certify_meant(source, packet, tables, clock):
    """What a source means."""
    return ("meant", source, packet, tables, clock, meant(source, packet, tables, clock)), ()


def certify_compiled(source, grant):
    """A source's compiled sieve."""
    return ("compiled", source, grant, compiled(source, grant)), ()


def certify_verdict(sieve, grant):
    """That a sieve is let by, flawed, or left open."""
    told = verdict(sieve, grant)
    if told[0] == "let by":
        return ("let by", sieve, grant, told[2]), told[1]
    if told[0] == "flaw":
        return ("flawed", sieve) + told[1:], ()
    return ("left open", sieve, grant) + told[1:3], ()


def certify_form(sieve, place, limit):
    """The form of a block."""
    form = form_of(sieve, place, limit)
    if form is None:
        raise NoBlock()
    return ("formed", sieve, place, limit, form), ()


def certify_better(form, kept, sure):
    """That a form made better does the same."""
    other, steps = better(form, kept, sure)
    return ("rewritten", form, other, sure), steps


def certify_translation(form, cells):
    """That what is made of a form is right for it."""
    return ("right translation", form, made(form, cells)), ()


def certify_passed(translation, run, most):
    """By which exit a translation is left, and the run then."""
    return ("passed", translation, run, most) + passed(translation, run, most), ()


def need_claimed_steps(steps):
    """Raise InvalidNumber for no whole number from 0 to 400."""
    if not is_between(steps, 0, MOST_CLAIMED):
        raise InvalidNumber(steps)


def certify_flow(chain, tables, coming, settings, deeds, steps):
    """The plain flow, shown by the legs of a runner."""
    need_chain(chain)
    need_tables(tables)
    need_coming(coming)
    need_settings(settings)
    need_deeds(deeds)
    need_claimed_steps(steps)
    course = Course(started_runner(beginning_flow(chain, tables, coming), settings))
    course.lead(deeds, steps)
    deeds_shown = tuple([timed for timed in deeds if is_shown(timed[1])])
    return ("flowed", chain, tables, coming, deeds_shown, steps, course.stream.flow()), tuple(course.legs)


def certify_joined(first, second):
    """The joined sieve of two."""
    return ("joined", first, second, joined(first, second)), ()
