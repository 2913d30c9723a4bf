"""Values that many tests take: of no told kind, and right ones of each kind."""

from suresieves.runs import begun

# Of any other kind than a number: what is none whatever is asked of it.
STRANGE = (
    None, True, False, "", "0", "abc", "array", "set", "name", b"", b"a", bytes(8),
    [], [0], [[0]], {}, {0: 0}, {"set": 0}, set(), frozenset((1, 2)), object(), len, ValueError,
    range(4), 1j, (None,), ("",), ((),), ([],), (True,), ("name",), ("set",), (b"set",),
)

NO_TUPLES = tuple(value for value in STRANGE if not isinstance(value, tuple)) + (0, 1, -1, 10 ** 300)

NO_NUMBERS = STRANGE + ((), (0,), (1, 2))

PACKET = (8, 0, 69, 255)
TABLES = (("array", 1, (5, 65535, 0)), ("pairs", 1, ((2, 20), (7, 70))), ("array", 0, (1,)), ("pairs", 0, ()))
GRANT = (0, 64, 1, (("array", 1, 3), ("pairs", 1, 4), ("array", 0, 1), ("pairs", 0, 0)))
SIEVE = (("set", 0, 1), ("answer", 0))
RUN = begun(PACKET, TABLES, 9, 1)
SOURCE = (("let", "x", ("number", 1)), ("answer", ("name", "x")))
LISTING = (("jump", "end"), ("label", "end"), ("answer", 0))
ANY = (0, 65535, 0, 0, None, None, None)


def number(n):
    """The known value that is just a number."""
    return (n, n, 65535, n, None, None, None)


STATE = ((number(0),) * 8, (number(0),) * 16, ((0, 0),) * 4, (0, 64))
TABLE = ((STATE[:3] + (GRANT[:2],)), ((number(1),) + STATE[0][1:],) + STATE[1:3] + (GRANT[:2],))

START = ((None,) * 8, (None,) * 16, (None,) * 4)
FORM = (0, 1, (("number", 1),), (START, (((0,) + (None,) * 7),) + START[1:]), ("on",))
EXIT = (1, "end", 1, None, (("number", 1),) + (None,) * 7) + START[1:]
TRANSLATION = ((("most", 0, 1), ("leave", 0)), (EXIT, (0, "most", 0, None) + START))
HOST = (tuple(range(12)), tuple(range(112)))
MARKS = (("number", 4294967295), ("cell", 11), ("box", 111), ("got", 79), ("add", 0, 3))


def put(row, index, value):
    """A tuple with another value at an index."""
    return row[:index] + (value,) + row[index + 1:]


def run_with(**parts):
    """The run RUN with other parts."""
    names = ("registers", "slots", "counters", "place", "packet", "tables", "clock", "steps", "end", "writable")
    run = list(RUN)
    for name, value in parts.items():
        run[names.index(name)] = value
    return tuple(run)


def registers(*words):
    """Eight registers, the first of which hold these words."""
    return tuple(words) + (0,) * (8 - len(words))
