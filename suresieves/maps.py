"""Where a run lies in the host: when it is entered, and when it is left."""

from suresieves.checks import is_between
from suresieves.errors import InvalidNumber
from suresieves.forms import need_most
from suresieves.hosting import host_gone
from suresieves.hostrows import BOXES, CELLS
from suresieves.hosts import need_host, need_translation
from suresieves.runs import need_run


def host_entered(run):
    """The HOST when it is entered from a run, all else being 0."""
    boxes = run[0] + run[1] + run[2] + (len(run[4]), run[6])
    return (0,) * CELLS, boxes + (0,) * (BOXES - len(boxes))


def number_at(spot, host):
    """What a spot tells, as it is."""
    if spot[0] == "cell":
        return host[0][spot[1]]
    return host[1][spot[1]] if spot[0] == "box" else spot[1]


def numbers_at(spots, host, stood, modulus):
    """What spots tell by a modulus, None standing for what stood there."""
    told = []
    for spot, number in zip(spots, stood):
        told.append(number if spot is None else number_at(spot, host) % modulus)
    return tuple(told)


def run_left(run, told, host):
    """The run that is left by the exit told."""
    many, _, place, answer, registers, slots, counters = told
    end = run[8] if answer is None else ("answer", number_at(answer, host) & 65535)
    return (
        numbers_at(registers, host, run[0], 65536),
        numbers_at(slots, host, run[1], 65536),
        numbers_at(counters, host, run[2], 101),
        place,
    ) + run[4:7] + (run[7] + many, end, run[9])


def run_passed(translation, run, most):
    """The number of the exit by which a translation is left, entered from a run, and the run then."""
    host, changed, x = host_gone(translation, host_entered(run), run, most)
    return x, run_left(changed, translation[1][x], host)


def entered(run):
    """The HOST when it is entered from a run, all other boxes and cells being 0."""
    need_run(run)
    return host_entered(run)


def left(run, translation, exit_number, host):
    """The run that is left by an exit, packet and tables being as they were changed."""
    need_run(run)
    need_translation(translation)
    if not is_between(exit_number, 0, len(translation[1]) - 1):
        raise InvalidNumber(exit_number)
    need_host(host)
    return run_left(run, translation[1][exit_number], host)


def passed(translation, run, most):
    """The number of the exit by which a translation is left, entered from a run, and the run then."""
    need_translation(translation)
    need_run(run)
    need_most(most)
    return run_passed(translation, run, most)
