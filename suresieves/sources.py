"""Sources: what they mean, and how they are written."""

from suresieves.errors import InvalidSource, InvalidWriting
from suresieves.meaning import outcome_of
from suresieves.packets import need_packet, need_tables
from suresieves.reading import body_in
from suresieves.showing import body_lines
from suresieves.sourceforms import greatest_rounds, is_sound_source, names_in
from suresieves.words import need_word


def is_source(value):
    """Whether a value is a source."""
    return is_sound_source(value)


def need_source(source):
    """Raise InvalidSource for what is no source."""
    if not is_source(source):
        raise InvalidSource(source)


def variables_in(source):
    """The variables, in the order in which they first come."""
    need_source(source)
    return names_in(source)


def meant(source, packet, tables, clock):
    """(ANSWER, PACKET, TABLES) as a source means it."""
    need_source(source)
    need_packet(packet)
    need_tables(tables)
    need_word(clock)
    return outcome_of(source, packet, tables, clock)


def rounds_of(source):
    """The greatest rounds of any statement, 1 if there is none."""
    need_source(source)
    return greatest_rounds(source, 1)


def read_source(writing):
    """The source that a writing tells."""
    if not isinstance(writing, str):
        raise InvalidWriting(None, None)
    source = body_in(writing)
    if not is_source(source):
        raise InvalidWriting(0, None)
    return source


def show_source(source):
    """The writing of a source."""
    need_source(source)
    return "\n".join(body_lines(source))
