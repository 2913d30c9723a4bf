"""Sources compiled into sieves."""

from suresieves.drafts import rows_of
from suresieves.errors import NotServed, TooMany
from suresieves.packets import need_grant
from suresieves.sourceforms import names_in, nodes_in
from suresieves.sources import need_source


def is_served(node, writable, kinds):
    """Whether an expression, condition or statement by itself is served."""
    head = node[0]
    if head == "write":
        return writable == 1
    if head in ("cell", "fill", "count"):
        sort = "array"
    elif head in ("value", "has", "change"):
        sort = "pairs"
    else:
        return True
    if node[1] >= len(kinds) or kinds[node[1]][0] != sort:
        return False
    return kinds[node[1]][1] == 1 or head not in ("fill", "count", "change")


def is_all_served(source, grant):
    """Whether a grant serves a source, both being right."""
    return all(is_served(node, grant[2], grant[3]) for node in nodes_in(source))


def does_serve(source, grant):
    """Whether a grant serves a source."""
    need_source(source)
    need_grant(grant)
    return is_all_served(source, grant)


def compiled(source, grant):
    """The sieve of a source, compiled for a grant that serves it."""
    need_source(source)
    need_grant(grant)
    if not is_all_served(source, grant):
        raise NotServed()
    rows = rows_of(source, names_in(source), grant[3])
    if len(rows) > 120:
        raise TooMany(len(rows))
    return rows
