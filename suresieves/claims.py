"""What is accepted of each kind of claim: its parts, and its paper, may be anything."""

from suresieves.checks import are_all, is_between, is_same, is_tuple, is_whole, is_word
from suresieves.chains import rows_joined
from suresieves.compiling import compiled
from suresieves.deeds import are_sound_deeds, is_shown
from suresieves.errors import InvalidSnapshot, NoSuchTable, NotServed, TooMany
from suresieves.formchecks import is_sound_form
from suresieves.forms import form_of
from suresieves.hosting import host_gone
from suresieves.hostrows import is_sound_host, is_sound_translation
from suresieves.inspector import does_take, is_state_or_none, verdict
from suresieves.judging import is_translation_taken
from suresieves.legs import are_form_steps, flow_by_legs
from suresieves.linking import are_arrivals, is_chain
from suresieves.loops import bound_in, flaws_in
from suresieves.maps import host_entered, run_left, run_passed
from suresieves.meaning import outcome_of
from suresieves.packets import are_tables, is_grant, is_packet
from suresieves.rewriting import led_form
from suresieves.rewritings import are_places
from suresieves.runs import MOST_STEPS, does_fit, is_run, is_sieve, run_far
from suresieves.snapshots import run_in
from suresieves.sourceforms import is_sound_source
from suresieves.working import worked_form

# How many boxes are as they are when the host is entered.
ENTERED_BOXES = 30
MOST_CLAIMED = 400


def is_nothing(paper):
    """Whether a paper is ()."""
    return is_tuple(paper, 0, 0)


def are_run_parts(parts):
    """Whether these are a sieve, a run, a number of steps and a run."""
    sieve, run, steps, end_run = parts
    return is_sieve(sieve) and is_run(run) and is_between(steps, 0, MOST_STEPS) and is_run(end_run)


def is_run_behind(parts):
    """Whether the last of a sieve, a run, a number of steps and a run is the one behind so many steps."""
    sieve, run, steps, end_run = parts
    return run_far(sieve, run, steps) == end_run


def accept_run(parts, paper):
    return is_nothing(paper) and are_run_parts(parts) and is_run_behind(parts)


def accept_not_run(parts, paper):
    return is_nothing(paper) and are_run_parts(parts) and not is_run_behind(parts)


def is_outcome(value):
    """Whether a value is (ANSWER, PACKET, TABLES)."""
    return is_tuple(value, 3, 3) and is_word(value[0]) and is_packet(value[1]) and are_tables(value[2])


def accept_meant(parts, paper):
    source, packet, tables, clock, outcome = parts
    if not (is_nothing(paper) and is_sound_source(source) and is_packet(packet) and are_tables(tables)):
        return False
    if not is_word(clock) or not is_outcome(outcome):
        return False
    try:
        return outcome_of(source, packet, tables, clock) == outcome
    except NoSuchTable:
        return False


def accept_compiled(parts, paper):
    source, grant, sieve = parts
    if not (is_nothing(paper) and is_sound_source(source) and is_grant(grant) and is_sieve(sieve)):
        return False
    try:
        return compiled(source, grant) == sieve
    except (NotServed, TooMany):
        return False


def accept_let_by(parts, paper):
    sieve, grant, steps = parts
    if not (is_sieve(sieve) and is_grant(grant) and is_whole(steps)):
        return False
    if not are_all(paper, len(sieve), len(sieve), is_state_or_none) or not does_take(sieve, grant, paper):
        return False
    return steps >= bound_in(sieve)


def accept_faulty(parts, paper):
    sieve, grant = parts
    if not (is_sieve(sieve) and is_grant(grant) and is_run(paper) and does_fit(grant, paper)):
        return False
    end = run_far(sieve, paper, MOST_STEPS)[8]
    return end is not None and end[0] == "fault"


def accept_flawed(parts, paper):
    sieve, place, reason = parts
    if not (is_nothing(paper) and is_sieve(sieve) and is_between(place, 0, 119) and isinstance(reason, str)):
        return False
    return flaws_in(sieve)[:1] == ((place, reason),)


def accept_left_open(parts, paper):
    sieve, grant, place, kind = parts
    if not (is_nothing(paper) and is_sieve(sieve) and is_grant(grant)):
        return False
    if not is_between(place, 0, 119) or not isinstance(kind, str):
        return False
    return verdict(sieve, grant)[:3] == ("open", place, kind)


def accept_formed(parts, paper):
    sieve, place, limit, form = parts
    if not (is_nothing(paper) and is_sieve(sieve) and is_between(place, 0, 119) and is_between(limit, 1, 12)):
        return False
    return is_sound_form(form) and form_of(sieve, place, limit) == form


def accept_rewritten(parts, paper):
    form, other, sure = parts
    if not (is_sound_form(form) and is_sound_form(other) and are_places(sure) and are_form_steps(paper)):
        return False
    return led_form(form, paper, sure) == other


def accept_right_translation(parts, paper):
    form, translation = parts
    if not (is_nothing(paper) and is_sound_form(form) and is_sound_translation(translation)):
        return False
    return is_translation_taken(form, translation)


def is_entering(paper, form):
    """Whether a paper is (RUN, HOST, MOST) with which a translation of a form may be entered."""
    if not is_tuple(paper, 3, 3):
        return False
    run, host, most = paper
    if not (is_run(run) and is_sound_host(host) and is_between(most, 0, 12)):
        return False
    if run[8] is not None or run[3] != form[0]:
        return False
    return host[1][:ENTERED_BOXES] == host_entered(run)[1][:ENTERED_BOXES]


def accept_wrong_translation(parts, paper):
    form, translation = parts
    if not (is_sound_form(form) and is_sound_translation(translation) and is_entering(paper, form)):
        return False
    run, host, most = paper
    (how, number), behind = worked_form(run, form, most)
    host, changed, x = host_gone(translation, host, run, most)
    told = translation[1][x]
    why = "end" if how == "done" else how
    return told[:2] != (number, why) or run_left(changed, told, host) != behind


def accept_passed(parts, paper):
    translation, run, most, x, other = parts
    if not (is_nothing(paper) and is_sound_translation(translation) and is_run(run) and is_between(most, 0, 12)):
        return False
    if not is_whole(x) or not is_run(other):
        return False
    return run_passed(translation, run, most) == (x, other)


def are_flow_parts(parts):
    """Whether these are a chain, tables, packets that come, shown deeds, a number of steps and a tuple of six."""
    chain, tables, coming, deeds, steps, flow = parts
    if not (is_chain(chain) and are_tables(tables) and are_arrivals(coming) and are_sound_deeds(deeds)):
        return False
    if not all(is_shown(deed) for _, deed in deeds):
        return False
    return is_between(steps, 0, MOST_CLAIMED) and is_tuple(flow, 6, 6)


def flow_shown(parts, paper):
    """The plain flow of the parts of a claim, None if they are wrong or the paper does not show it."""
    if not are_flow_parts(parts):
        return None
    chain, tables, coming, deeds, steps, _ = parts
    return flow_by_legs(chain, tables, coming, deeds, steps, paper)


def accept_flowed(parts, paper):
    flow = flow_shown(parts, paper)
    return flow is not None and is_same(parts[5], flow)


def accept_not_flowed(parts, paper):
    flow = flow_shown(parts, paper)
    return flow is not None and not is_same(parts[5], flow)


def accept_joined(parts, paper):
    first, second, sieve = parts
    if not (is_nothing(paper) and is_sieve(first) and is_sieve(second) and is_sieve(sieve)):
        return False
    return rows_joined(first, second) == sieve


def accept_snapshot(parts, paper):
    run, writing = parts
    if not (is_nothing(paper) and is_run(run) and isinstance(writing, str)):
        return False
    # A run has just one snapshot: it is the one that is read back as the run.
    try:
        return run_in(writing) == run
    except InvalidSnapshot:
        return False


# How many parts stand behind each claim's name, and what accepts them.
MANY_PARTS = {
    "run": 4,
    "not run": 4,
    "meant": 5,
    "compiled": 3,
    "let by": 3,
    "faulty": 2,
    "flawed": 3,
    "left open": 4,
    "formed": 4,
    "rewritten": 3,
    "right translation": 2,
    "wrong translation": 2,
    "passed": 5,
    "flowed": 6,
    "not flowed": 6,
    "joined": 3,
    "snapshot": 2,
}

ACCEPTED = {
    "run": accept_run,
    "not run": accept_not_run,
    "meant": accept_meant,
    "compiled": accept_compiled,
    "let by": accept_let_by,
    "faulty": accept_faulty,
    "flawed": accept_flawed,
    "left open": accept_left_open,
    "formed": accept_formed,
    "rewritten": accept_rewritten,
    "right translation": accept_right_translation,
    "wrong translation": accept_wrong_translation,
    "passed": accept_passed,
    "flowed": accept_flowed,
    "not flowed": accept_not_flowed,
    "joined": accept_joined,
    "snapshot": accept_snapshot,
}
