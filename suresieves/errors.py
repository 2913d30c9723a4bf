"""The classes of errors: each stands under SieveError alone."""


class SieveError(ValueError):
    """Under it all errors of this package stand."""


class InvalidGrant(SieveError):
    """What was given is no grant."""

    def __init__(self, given):
        self.given = given


class InvalidNumber(SieveError):
    """What was given is no number within the bounds."""

    def __init__(self, given):
        self.given = given


class InvalidName(SieveError):
    """What was given is none of the names that can stand there."""

    def __init__(self, given):
        self.given = given


class InvalidKnown(SieveError):
    """What was given is no known value."""

    def __init__(self, given):
        self.given = given


class InvalidState(SieveError):
    """What was given is no known state."""

    def __init__(self, given):
        self.given = given


class InvalidRow(SieveError):
    """What was given is no row."""

    def __init__(self, given):
        self.given = given


class InvalidTranslation(SieveError):
    """What was given is no translation."""

    def __init__(self, given):
        self.given = given


class InvalidHost(SieveError):
    """What was given is no host."""

    def __init__(self, given):
        self.given = given


class InvalidForm(SieveError):
    """What was given is no form."""

    def __init__(self, given):
        self.given = given


class InvalidStep(SieveError):
    """What was given has not the form of a step."""

    def __init__(self, given):
        self.given = given


class InvalidKept(SieveError):
    """What was given are no boundaries to keep."""

    def __init__(self, given):
        self.given = given


class InvalidSource(SieveError):
    """What was given is no source."""

    def __init__(self, given):
        self.given = given


class NoSuchTable(SieveError):
    """A source looks at a table that is none of the kind."""

    def __init__(self, given):
        self.given = given


class TooMany(SieveError):
    """There would be too many: as many as are given."""

    def __init__(self, given):
        self.given = given


class InvalidSettings(SieveError):
    """What was given are no settings."""

    def __init__(self, given):
        self.given = given


class InvalidSure(SieveError):
    """What was given are no sure places."""

    def __init__(self, given):
        self.given = given


class InvalidDeed(SieveError):
    """What was given is no deed."""

    def __init__(self, given):
        self.given = given


class InvalidSieve(SieveError):
    """A sieve is none, or has no row at this index."""

    def __init__(self, index):
        self.index = index


class InvalidPacket(SieveError):
    """A packet is none, or has no byte at this index."""

    def __init__(self, index):
        self.index = index


class InvalidTables(SieveError):
    """Tables are none, or have no table at this index."""

    def __init__(self, index):
        self.index = index


class InvalidRun(SieveError):
    """A run is none, or is wrong at this index."""

    def __init__(self, index):
        self.index = index


class InvalidTable(SieveError):
    """A table of known states is none, or is wrong at this index."""

    def __init__(self, index):
        self.index = index


class InvalidMarks(SieveError):
    """Marks are none, or are wrong at this index."""

    def __init__(self, index):
        self.index = index


class InvalidWords(SieveError):
    """Words are none, or have no word at this index."""

    def __init__(self, index):
        self.index = index


class InvalidListing(SieveError):
    """A listing is none, or has no line at this index."""

    def __init__(self, index):
        self.index = index


class InvalidSteps(SieveError):
    """Steps are none, or have no step at this index."""

    def __init__(self, index):
        self.index = index


class NotLaid(SieveError):
    """A listing can't be laid, because of the line at this index."""

    def __init__(self, index):
        self.index = index


class InvalidChain(SieveError):
    """A chain is none, or has no link at this index."""

    def __init__(self, index):
        self.index = index


class InvalidComing(SieveError):
    """Packets that come are none, or are wrong at this index."""

    def __init__(self, index):
        self.index = index


class InvalidDeeds(SieveError):
    """Deeds are none, or are wrong at this index."""

    def __init__(self, index):
        self.index = index


class InvalidWriting(SieveError):
    """A writing is none, or is wrong in this line, at this place."""

    def __init__(self, line, place):
        self.line = line
        self.place = place


class InvalidSnapshot(SieveError):
    """A writing is no snapshot: it is wrong in this line."""

    def __init__(self, line):
        self.line = line


class NotTaken(SieveError):
    """The judge does not take a table."""


class NotThere(SieveError):
    """A run has ended, or is at another place."""


class NotServed(SieveError):
    """A grant does not serve a source."""


class NoBlock(SieveError):
    """There is no block at a place."""
