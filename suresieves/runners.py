"""Runners: flows that are led by translated blocks, shown as the plain flow is."""

from suresieves.courses import Course
from suresieves.deeds import need_deed, need_deeds, need_settings
from suresieves.flows import need_room
from suresieves.linking import need_coming
from suresieves.runnerchecks import is_runner_of
from suresieves.runs import need_steps


def started_runner(flow, settings):
    """A runner that starts, all arguments being right."""
    return flow, settings, (), (), 0, 1, (0,) * 7


def course_behind(runner, deeds, steps):
    """What a runner has done behind so many steps, all arguments being right."""
    course = Course(runner)
    course.lead(deeds, steps)
    return course


def started(flow, settings):
    """A runner that starts with a flow."""
    need_settings(settings)
    return started_runner(flow, settings)


def is_runner(flow, value):
    """Whether a value is a runner whose FLOW is this one."""
    return is_runner_of(flow, value)


def shown(runner):
    """The flow of a runner."""
    return runner[0]


def tally(runner):
    """The seven numbers of TALLY."""
    return runner[6]


def kept(runner):
    """(SERIAL, INDEX, PLACE, MANY) for each kept block."""
    return tuple([block[:3] + (block[5][1],) for block in runner[2]])


def links(runner):
    """(SERIAL, TARGET, SERIAL of the block there) for each link, by kept blocks."""
    return tuple([(block[0],) + link for block in runner[2] for link in block[8]])


def leap(runner, deeds, steps):
    """A runner behind one leap with so many steps left."""
    need_deeds(deeds)
    need_steps(steps)
    course = Course(runner)
    if steps > 0 and not course.stream.is_still():
        course.leap(deeds, steps)
    return course.runner()


def led(runner, deeds, steps):
    """A runner behind so many steps."""
    need_deeds(deeds)
    need_steps(steps)
    return course_behind(runner, deeds, steps).runner()


def deeded(runner, deed):
    """A runner behind one deed that is done at once."""
    need_deed(deed)
    course = Course(runner)
    course.deal(deed)
    return course.runner()


def fed_runner(runner, coming):
    """A runner whose flow is fed."""
    need_coming(coming)
    need_room(runner[0], coming)
    course = Course(runner)
    course.stream.feed(coming)
    return course.runner()


def tale(runner, deeds, steps):
    """What a runner does in so many steps, in order."""
    need_deeds(deeds)
    need_steps(steps)
    return tuple(course_behind(runner, deeds, steps).tale)
