"""The console: lines are said to it, and it answers."""

from suresieves.checks import are_all
from suresieves.errors import InvalidWriting
from suresieves.orders import FRESH_STATE, NOT_THERE, order_done

MOST_EARLIER = 20
MOST_SAID = 100


def is_text(value):
    """Whether a value is a text."""
    return isinstance(value, str)


def parts_of(line):
    """A line's word, and what stands behind the first blank behind it, None if there is no blank."""
    head, blank, writing = line.lstrip(" ").partition(" ")
    return head, writing if blank else None


def is_kept_always(head, answer):
    """Whether the state ahead of a line that was done is kept even if it does not change."""
    return (head, answer) in (("settings", "set"), ("clear", "done"), ("cut", "done"), ("new", "new"))


def gone_back(console):
    """A console with the newest of the earlier states, and its answer."""
    earlier = console[1]
    if not earlier:
        return console, NOT_THERE
    return (earlier[-1], earlier[:-1]), "back"


def answered(console, line):
    """A console behind a text that is said to it, and its answer."""
    state, earlier = console
    if line.strip(" ") == "back":
        return gone_back(console)
    head, writing = parts_of(line)
    told = order_done(state, head, writing)
    if told is None:
        return console, "not understood"
    behind, answer = told
    if behind != state or is_kept_always(head, answer):
        earlier = (earlier + (state,))[-MOST_EARLIER:]
    return (behind, earlier), answer


def fresh_console():
    """The fresh console."""
    return FRESH_STATE, ()


def said(console, line):
    """A console behind a line that is said to it, and its answer."""
    if not is_text(line):
        raise InvalidWriting(None, None)
    return answered(console, line)


def told_all(console, lines):
    """A console behind all lines, and the answers."""
    if not are_all(lines, 0, MOST_SAID, is_text):
        raise InvalidWriting(None, None)
    answers = []
    for line in lines:
        console, answer = answered(console, line)
        answers.append(answer)
    return console, tuple(answers)
