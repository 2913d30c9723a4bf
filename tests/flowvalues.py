"""Sieves, links and flows that many tests take, worked out by hand."""

from suresieves.flows import flow_of, link_of

KINDS = (("array", 1, 2), ("pairs", 1, 3))
TABLES = (("array", 1, (10, 20)), ("pairs", 1, ((5, 50), (7, 70))))
WIDE = (0, 64, 1, KINDS)

# Hands all on; drops all; sends all with the word of their first byte, 2 more; counts in cell 0 and hands on.
PASS = (("set", 0, 1), ("answer", 0))
DROP = (("answer", 0),)
SEND = (("set", 1, 0), ("byte", 0, 1, 0), ("addn", 0, 2), ("answer", 0))
COUNT = (("count", 0, 0), ("set", 1, 1), ("answer", 1))
# What the pairs tell of the first byte, or 0: it is sent, handed on, or dropped with it.
LOOK = (("byte", 1, 0, 0), ("find", 2, 1, 1), ("whenn", "same", 2, 0, 4), ("value", 0, 1, 2), ("answer", 0))

PASSING = link_of(PASS, WIDE)
DROPPING = link_of(DROP, WIDE)
SENDING = link_of(SEND, (1, 64, 0, KINDS))
COUNTING = link_of(COUNT, WIDE)
LOOKING = link_of(LOOK, (1, 64, 0, KINDS))


def flow(links, packets=((),), tables=TABLES):
    """The flow of links, with packets that come at clocks 0, 1, 2 and so on."""
    return flow_of(tuple(links), tables, tuple(enumerate(packets)))
