"""Which values a form names, and how another value is put for one.

Forms are not checked here: who calls has done so."""

from suresieves.doing import exchanged
from suresieves.effects import EFFECT_FIELDS, values_named


def named_in_boundary(boundary):
    """The values that a boundary names, if it is told."""
    if boundary is None:
        return []
    return [value for value in boundary[0] + boundary[1] + boundary[2] if value is not None]


def named_in_end(end):
    """The values that an END names."""
    if end[0] == "when":
        return [end[2], end[3]]
    return [end[1]] if end[0] == "answer" else []


def all_named(form):
    """All values that effects, told boundaries and END name, as often as they do."""
    named = []
    for effect in form[2]:
        named.extend(values_named(effect))
    for boundary in form[3]:
        named.extend(named_in_boundary(boundary))
    return named + named_in_end(form[4])


def used_flags(form):
    """For each effect whether its value is used."""
    flags = [False] * len(form[2])
    for value in all_named(form):
        flags[value] = True
    return flags


def swapped(value, k, j):
    """Value j for value k, all others as they are."""
    return j if value == k else value


def swapped_parts(parts, k, j):
    return tuple([swapped(value, k, j) for value in parts])


def effect_with(effect, k, j):
    """An effect with j put for k."""
    fields = EFFECT_FIELDS[effect[0]]
    parts = [swapped(part, k, j) if kind == "value" else part for kind, part in zip(fields, effect[1:])]
    return (effect[0],) + tuple(parts)


def boundary_with(boundary, k, j):
    """A boundary with j put for k."""
    if boundary is None:
        return None
    return tuple([swapped_parts(parts, k, j) for parts in boundary])


def end_with(end, k, j):
    """An END with j put for k."""
    if end[0] == "when":
        return end[:2] + (swapped(end[2], k, j), swapped(end[3], k, j), end[4])
    return ("answer", swapped(end[1], k, j)) if end[0] == "answer" else end


def put_for(form, k, j):
    """A form with value j put for value k wherever it is named."""
    place, many, effects, boundaries, end = form
    effects = tuple([effect_with(effect, k, j) for effect in effects])
    boundaries = tuple([boundary_with(boundary, k, j) for boundary in boundaries])
    return place, many, effects, boundaries, end_with(end, k, j)


def with_effect(form, k, effect):
    """A form with another effect k."""
    return exchanged(form, 2, exchanged(form[2], k, effect))
