"""Chains of links, and packets that flow through them one behind the other."""

from suresieves.deeds import are_sound_deeds, are_sound_settings, is_shown, need_deed, need_deeds
from suresieves.errors import TooMany
from suresieves.inspector import verdict
from suresieves.linking import MOST_COMING, is_sound_link, need_chain, need_coming
from suresieves.loops import bound_in
from suresieves.packets import need_tables
from suresieves.runs import need_steps
from suresieves.streams import Stream, steps_free


def link_of(sieve, grant):
    """A link of a sieve and a grant, None if the inspector does not let the sieve by."""
    told = verdict(sieve, grant)
    return (sieve, grant, told[1]) if told[0] == "let by" else None


def is_link(value):
    """Whether a value is a link."""
    return is_sound_link(value)


def are_deeds(value):
    """Whether a value is deeds."""
    return are_sound_deeds(value)


def are_settings(value):
    """Whether a value is settings."""
    return are_sound_settings(value)


def beginning_flow(chain, tables, coming):
    """The flow of no steps, all arguments being right."""
    stream = Stream((chain, coming, ("still", tables), (), ((0,) * 5,) * len(chain), 0))
    stream.bring_next()
    return stream.flow()


def flow_behind(flow, deeds, steps):
    """The plain flow, all arguments being right."""
    stream, left = Stream(flow), steps
    while left > 0 and not stream.is_still():
        stream.deal_all(deeds)
        stream.step()
        left -= 1
    return stream.flow()


def need_room(flow, coming):
    """Raise TooMany where more packets would wait than may."""
    many = len(flow[1]) + len(coming)
    if many > MOST_COMING:
        raise TooMany(many)


def flow_of(chain, tables, coming):
    """The flow of no steps, the first packet brought to index 0."""
    need_chain(chain)
    need_tables(tables)
    need_coming(coming)
    return beginning_flow(chain, tables, coming)


def fed(flow, coming):
    """A flow with more packets that wait, brought if it was still."""
    need_coming(coming)
    need_room(flow, coming)
    stream = Stream(flow)
    stream.feed(coming)
    return stream.flow()


def dealt(flow, deed):
    """A flow behind one deed that is done at once; hidden ones leave it alone."""
    need_deed(deed)
    stream = Stream(flow)
    if is_shown(deed):
        stream.deal(deed)
    return stream.flow()


def flowed(flow, deeds, steps):
    """The plain flow with deeds behind so many steps."""
    need_deeds(deeds)
    need_steps(steps)
    return flow_behind(flow, deeds, steps)


def tables_of(flow):
    """The tables of a flow's run, or with which it is still."""
    return Stream(flow).tables_now()


def steps_left(flow):
    """Within how many steps the packet at hand and all that wait are through."""
    if flow[2][0] == "still":
        return 0
    bounds = [bound_in(link[0]) for link in flow[0]]
    return sum(bounds[flow[2][1]:]) + len(flow[1]) * sum(bounds)


def free_steps(flow, deeds, steps):
    """The free steps of a flow with so many steps left and deeds, 0 if it is still."""
    need_deeds(deeds)
    need_steps(steps)
    return 0 if flow[2][0] == "still" else steps_free(flow[5], deeds, steps)
