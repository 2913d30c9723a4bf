"""Points 4, 5 and 6: arguments, by position and by name, and which error is told first."""

import copy
import inspect
import unittest
from itertools import combinations

from suresieves import compiling, errors, known, listings, packets, runs, sources
from tests.values import ANY, GRANT, LISTING, NO_NUMBERS, NO_TUPLES, PACKET, RUN, SIEVE, SOURCE
from tests.values import STATE, STRANGE, TABLES, put

LONG = 10 ** 30
BAD_SIEVES = [(value, {"index": None}) for value in NO_TUPLES + ((), SIEVE * 60 + SIEVE[:1])] + [
    ((SIEVE[0], value), {"index": 1}) for value in STRANGE
] + [((("answer", 8), None), {"index": 0}), (SIEVE * 59 + (("jump", 120),) * 2, {"index": 118})]
BAD_PACKETS = [(value, {"index": None}) for value in NO_TUPLES + ((0,) * 257,)] + [
    ((0, 255, value, -1), {"index": 2}) for value in NO_NUMBERS + (-1, 256, LONG)
]
BAD_TABLES = [(value, {"index": None}) for value in NO_TUPLES + (TABLES + TABLES[:3],)] + [
    (TABLES + (value, 0), {"index": 4}) for value in STRANGE + (("array", 1, ()), ("pairs", 1, ((1, 2), (1, 3))))
]
BAD_RUNS = [(value, {"index": None}) for value in NO_TUPLES + ((), RUN[:9], RUN + (0,))] + [
    (put(RUN, index, value), {"index": index})
    for index in range(10) for value in (-1, LONG, "", [], ("answer",), [0] * 8)
    if (index, value) != (7, LONG)
] + [(put(put(RUN, 7, True), 2, (0, 0, 0, 101)), {"index": 2})]
BAD_GRANTS = [(value, {"given": value}) for value in NO_TUPLES + ((), GRANT[:3], put(GRANT, 0, 65), put(GRANT, 2, 2))]
BAD_WORDS = [(value, {"given": value}) for value in NO_NUMBERS + (-1, 65536, LONG)]
BAD_FLAGS = [(value, {"given": value}) for value in NO_NUMBERS + (-1, 2, LONG)]
BAD_STEPS = [(value, {"given": value}) for value in NO_NUMBERS + (-1, 20001, LONG)]
BAD_NAMES = [(value, {"given": value}) for value in NO_NUMBERS + (0, "addn", "Add", "add ", "not")]
BAD_SOURCES = [(value, {"given": value}) for value in NO_TUPLES + ((("leave",),), SOURCE[0], [SOURCE[0]], (None,))]
BAD_LISTINGS = [(value, {"index": None}) for value in NO_TUPLES + ((), LISTING * 81)] + [
    (LISTING + (value, 0), {"index": 3}) for value in STRANGE + (("label", "r3"), ("jump", 120), ("answer", "end"))
]
BAD_WRITINGS = [
    (value, {"line": None, "place": None}) for value in STRANGE + ((), 0) if not isinstance(value, str)
]
BAD_KNOWN = [(value, {"given": value}) for value in STRANGE + ((), ANY[:6], (1, 0) + ANY[2:], (8, 8, 1, 1) + ANY[4:])]
BAD_LEAST = [(value, {"given": value}) for value in NO_NUMBERS + (-1, 257, LONG)]
BAD_STATES = [(value, {"given": value}) for value in STRANGE + ((), STATE[:3], put(STATE, 3, (5, 4)), ANY)]

SIEVE_ARG = (SIEVE, "InvalidSieve", BAD_SIEVES)
PACKET_ARG = (PACKET, "InvalidPacket", BAD_PACKETS)
TABLES_ARG = (TABLES, "InvalidTables", BAD_TABLES)
RUN_ARG = (RUN, "InvalidRun", BAD_RUNS)
GRANT_ARG = (GRANT, "InvalidGrant", BAD_GRANTS)
WORD_ARG = (7, "InvalidNumber", BAD_WORDS)
FLAG_ARG = (1, "InvalidNumber", BAD_FLAGS)
STEPS_ARG = (3, "InvalidNumber", BAD_STEPS)
SOURCE_ARG = (SOURCE, "InvalidSource", BAD_SOURCES)
LISTING_ARG = (LISTING, "InvalidListing", BAD_LISTINGS)
WRITING_ARG = ("answer r0", "InvalidWriting", BAD_WRITINGS)
KNOWN_ARG = (ANY, "InvalidKnown", BAD_KNOWN)
STATE_ARG = (STATE, "InvalidState", BAD_STATES)

# For each function its parameters in order: a right value, the error, wrong values and what it keeps.
FUNCTIONS = {
    packets.grant_for: {"packet": PACKET_ARG, "tables": TABLES_ARG, "writable": FLAG_ARG},
    runs.begun: {"packet": PACKET_ARG, "tables": TABLES_ARG, "clock": WORD_ARG, "writable": FLAG_ARG},
    runs.fits: {"grant": GRANT_ARG, "run": RUN_ARG},
    runs.one_step: {"sieve": SIEVE_ARG, "run": RUN_ARG},
    runs.run_on: {"sieve": SIEVE_ARG, "run": RUN_ARG, "steps": STEPS_ARG},
    runs.fault_of: {"sieve": SIEVE_ARG, "run": RUN_ARG},
    runs.answer_of: {"sieve": SIEVE_ARG, "run": RUN_ARG},
    runs.reckoned: {"op": ("xor", "InvalidName", BAD_NAMES), "one": WORD_ARG, "two": WORD_ARG},
    runs.does_hold: {"condition": ("nobit", "InvalidName", BAD_NAMES), "one": WORD_ARG, "two": WORD_ARG},
    sources.variables_in: {"source": SOURCE_ARG},
    sources.meant: {"source": SOURCE_ARG, "packet": PACKET_ARG, "tables": TABLES_ARG, "clock": WORD_ARG},
    sources.rounds_of: {"source": SOURCE_ARG},
    sources.read_source: {"writing": WRITING_ARG},
    sources.show_source: {"source": SOURCE_ARG},
    compiling.does_serve: {"source": SOURCE_ARG, "grant": GRANT_ARG},
    compiling.compiled: {"source": SOURCE_ARG, "grant": GRANT_ARG},
    listings.can_be_laid: {"listing": LISTING_ARG},
    listings.sieve_of: {"listing": LISTING_ARG},
    listings.read_listing: {"writing": WRITING_ARG},
    listings.show_listing: {"listing": LISTING_ARG},
    listings.show_sieve: {"sieve": SIEVE_ARG},
    known.is_so: {"known": KNOWN_ARG, "word": WORD_ARG, "run": RUN_ARG},
    known.tight: {"known": KNOWN_ARG},
    known.room_of: {"known": KNOWN_ARG, "least": (4, "InvalidNumber", BAD_LEAST)},
    known.join: {"state": STATE_ARG, "other": STATE_ARG},
    known.is_within: {"state": STATE_ARG, "other": STATE_ARG},
    known.are_so: {"state": STATE_ARG, "run": RUN_ARG},
    known.entry: {"grant": GRANT_ARG},
}

QUESTIONS = (
    packets.is_packet, packets.is_table, packets.are_tables, packets.is_grant,
    runs.is_row, runs.is_sieve, runs.is_run, sources.is_source, listings.is_listing,
    known.is_known, known.is_known_state,
)


def right_arguments(parameters):
    return {name: told[0] for name, told in parameters.items()}


class TestArguments(unittest.TestCase):
    def test_signatures(self):
        for function, parameters in FUNCTIONS.items():
            with self.subTest(function=function.__name__):
                self.assertEqual(list(inspect.signature(function).parameters), list(parameters))
        for question in QUESTIONS:
            self.assertEqual(list(inspect.signature(question).parameters), ["value"])

    def test_position_and_name_and_nothing_changed(self):
        for function, parameters in FUNCTIONS.items():
            if function is sources.read_source:
                parameters = {"writing": ("answer 0",)}
            right = right_arguments(parameters)
            with self.subTest(function=function.__name__):
                before = copy.deepcopy(right)
                told = function(*right.values())
                self.assertEqual(function(**right), told)
                self.assertEqual(function(**dict(reversed(right.items()))), told)
                self.assertEqual(repr(right), repr(before))

    def check(self, function, arguments, error, kept):
        for call in (lambda: function(**arguments), lambda: function(*arguments.values())):
            with self.assertRaises(errors.SieveError) as caught:
                call()
            self.assertIs(caught.exception.__class__, getattr(errors, error))
            self.assertEqual(repr(vars(caught.exception)), repr(kept))

    def test_each_wrong_value(self):
        for function, parameters in FUNCTIONS.items():
            for name, (_, error, wrong) in parameters.items():
                for value, kept in wrong:
                    with self.subTest(function=function.__name__, name=name, value=value):
                        arguments = {**right_arguments(parameters), name: value}
                        self.check(function, arguments, error, kept)

    def test_first_in_the_order_of_the_signature(self):
        for function, parameters in FUNCTIONS.items():
            for first, second in combinations(parameters, 2):
                with self.subTest(function=function.__name__, first=first, second=second):
                    _, error, wrong = parameters[first]
                    other = parameters[second][2][0][0]
                    arguments = {**right_arguments(parameters), first: wrong[0][0], second: other}
                    self.check(function, arguments, error, wrong[0][1])

    def test_given_is_what_was_passed(self):
        value = ([1], {"a": 2})
        with self.assertRaises(errors.InvalidGrant) as caught:
            known.entry(value)
        self.assertIs(caught.exception.given, value)

    def test_questions_of_strange_values(self):
        for question in QUESTIONS:
            for value in STRANGE + (0, 1, 10 ** 300, -1):
                with self.subTest(question=question.__name__, value=value):
                    self.assertIs(question(value), False)
                    self.assertIs(question(value=value), False)
