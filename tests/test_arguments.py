"""Points 4, 5 and 6: arguments, by position and by name, and which error is told first."""

import copy
import inspect
import unittest
from itertools import combinations

from suresieves import blocks, certificates, chains, compiling, console, errors, flows, forms, hosts, inspector, judge
from suresieves import known, listings, making, maps, packets, rewritings, runners, runs, snapshots, sources, ways
from tests.flowvalues import PASSING, SENDING, flow
from tests.values import ANY, EXIT, FORM, GRANT, HOST, LISTING, MARKS, NO_NUMBERS, NO_TUPLES, PACKET, RUN, SIEVE
from tests.values import SOURCE, STATE, STRANGE, TABLE, TABLES, TRANSLATION, put

LONG = 10 ** 30
BAD_SIEVES = [(value, {"index": None}) for value in NO_TUPLES + ((), SIEVE * 60 + SIEVE[:1])] + [
    ((SIEVE[0], value), {"index": 1}) for value in STRANGE
] + [((("answer", 8), None), {"index": 0}), (SIEVE * 59 + (("jump", 120),) * 2, {"index": 118})]
BAD_PACKETS = [(value, {"index": None}) for value in NO_TUPLES + ((0,) * 257,)] + [
    ((0, 255, value, -1), {"index": 2}) for value in NO_NUMBERS + (-1, 256, LONG)
]
BAD_TABLES = [(value, {"index": None}) for value in NO_TUPLES + (TABLES + TABLES[:3],)] + [
    (TABLES + (value, 0), {"index": 4}) for value in STRANGE + (("array", 1, ()), ("pairs", 1, ((1, 2), (1, 3))))
]
BAD_RUNS = [(value, {"index": None}) for value in NO_TUPLES + ((), RUN[:9], RUN + (0,))] + [
    (put(RUN, index, value), {"index": index})
    for index in range(10) for value in (-1, LONG, "", [], ("answer",), [0] * 8)
    if (index, value) != (7, LONG)
] + [(put(put(RUN, 7, True), 2, (0, 0, 0, 101)), {"index": 2})]
BAD_GRANTS = [(value, {"given": value}) for value in NO_TUPLES + ((), GRANT[:3], put(GRANT, 0, 65), put(GRANT, 2, 2))]
BAD_WORDS = [(value, {"given": value}) for value in NO_NUMBERS + (-1, 65536, LONG)]
BAD_FLAGS = [(value, {"given": value}) for value in NO_NUMBERS + (-1, 2, LONG)]
BAD_STEPS = [(value, {"given": value}) for value in NO_NUMBERS + (-1, 20001, LONG)]
BAD_NAMES = [(value, {"given": value}) for value in NO_NUMBERS + (0, "addn", "Add", "add ", "not")]
BAD_SOURCES = [(value, {"given": value}) for value in NO_TUPLES + ((("leave",),), SOURCE[0], [SOURCE[0]], (None,))]
BAD_LISTINGS = [(value, {"index": None}) for value in NO_TUPLES + ((), LISTING * 81)] + [
    (LISTING + (value, 0), {"index": 3}) for value in STRANGE + (("label", "r3"), ("jump", 120), ("answer", "end"))
]
BAD_WRITINGS = [
    (value, {"line": None, "place": None}) for value in STRANGE + ((), 0) if not isinstance(value, str)
]
BAD_KNOWN = [(value, {"given": value}) for value in STRANGE + ((), ANY[:6], (1, 0) + ANY[2:], (8, 8, 1, 1) + ANY[4:])]
BAD_LEAST = [(value, {"given": value}) for value in NO_NUMBERS + (-1, 257, LONG)]
BAD_STATES = [(value, {"given": value}) for value in STRANGE + ((), STATE[:3], put(STATE, 3, (5, 4)), ANY)]


def given(*values):
    """Wrong values that an error keeps as they are."""
    return [(value, {"given": value}) for value in values]


BAD_ROWS = given(*STRANGE, (), 0, ("set", 8, 0), ("set", 0), ("leave", 0), ["set", 0, 0], SIEVE)
BAD_PLACES = given(*NO_NUMBERS, -1, 120, LONG)
BAD_MANY = given(*NO_NUMBERS, -1, 0, 121, LONG)
BAD_KNOWN_TABLES = [(value, {"index": None}) for value in NO_TUPLES + ((), TABLE[:1], TABLE + TABLE[:1])] + [
    ((STATE, value), {"index": 1}) for value in STRANGE[1:] + ((), STATE[:3], 0)
] + [((0, 0), {"index": 0}), ((None, put(STATE, 3, (5, 4))), {"index": 1})]
BAD_LIMITS = given(*NO_NUMBERS, -1, 0, 13, LONG)
BAD_FORMS = given(*STRANGE, (), 0, FORM[:4], put(FORM, 0, 120), put(FORM, 3, FORM[3][:1]), list(FORM))
BAD_MOSTS = given(*NO_NUMBERS, -1, 13, LONG)
BAD_BOUNDARIES = given(*NO_NUMBERS, -1, 2, LONG)
BAD_STEPS_OF_FORMS = given(*STRANGE, (), 0, ("drop",), ("drop", -1), ("same", 1), ("ended", 0), ["ended"])
BAD_LED = [(value, {"index": None}) for value in NO_TUPLES] + [
    ((("ended",), ("drop", 1), value, 0), {"index": 2}) for value in STRANGE + ((), ("drop", True), ("told", 0))
]
NO_PLACES = tuple(value for value in STRANGE if value != ()) + (
    0, (-1,), (120,), (True,), (0, 0), (3, 2), (1, 2, "3"), [1], (1, None),
)
BAD_SURE = given(*NO_PLACES)
BAD_TRANSLATIONS = given(*STRANGE, (), 0, TRANSLATION[:1], (TRANSLATION[0], ()), ((), TRANSLATION[1]), list(TRANSLATION),
                         (TRANSLATION[0][:1], TRANSLATION[1]))
BAD_HOSTS = given(*STRANGE, (), 0, HOST[:1], (HOST[0], HOST[1][:111]), put(HOST, 0, HOST[0][:11] + (-1,)), list(HOST))
BAD_HOST_ROWS = given(*STRANGE, (), 0, ("byte", 0, 0, 0, None), ("leave", 0), ("most", 0, 0), ("skip", 0, 1),
                      ("grow", 0, 0, None), ("set", 12, 0), ("take", 0, 112), ("add", 0, 0), ["set", 0, 0])
BAD_EXITS = given(*NO_NUMBERS, -1, 2, LONG)
BAD_MARKS = [(value, {"index": None}) for value in NO_TUPLES] + [
    (MARKS + (value, 0), {"index": 5}) for value in STRANGE + ((), ("add", 0, 5), ("box", 112)) + MARKS
]
BAD_MARK_OPS = given(*NO_NUMBERS, 0, "addn", "ones ", "number", "byte")
BAD_MARK_NUMBERS = given(*NO_NUMBERS, -1, 5, LONG)
BAD_WORDS_READ = [(value, {"index": None}) for value in NO_TUPLES] + [
    ((1, 2, value, -1), {"index": 2}) for value in NO_NUMBERS + (-1, 65536, LONG)
]

NOT_COMING = ((-1, ()), (65536, ()), (0, (256,)), (0, (0,) * 257), (0,), (0, (), ()), [0, ()], (0, [0]))
NO_DEEDS = tuple(value for value in STRANGE if value != ()) + (
    0, ("cell", 6, 0, 0), ("cell", 0, 32, 0), ("off", 0), ("exchange", 4, PASSING), ("exchange", 0, PASSING[:2]), ("drop", 0, 120),
    ("make", 4, 0), ("clear", 0), ["cut"], ("settings", (1,) * 8), ("step",),
)
BAD_CELLS = given(*NO_NUMBERS, -1, 3, 13, LONG)
BAD_CHAINS = [(value, {"index": None}) for value in NO_TUPLES + ((), (PASSING,) * 5)] + [
    ((PASSING, value, None), {"index": 1}) for value in STRANGE + ((), PASSING[:2], put(PASSING, 2, (None, None)))
]
BAD_COMING = [(value, {"index": None}) for value in NO_TUPLES + (((0, ()),) * 51,)] + [
    (((0, ()), (65535, (255,)), value, 0), {"index": 2}) for value in STRANGE + NOT_COMING
]
BAD_DEEDS = [(value, {"index": None}) for value in NO_TUPLES + (((0, ("cut",)),) * 51,)] + [
    (((3, ("cut",)), (4, ("clear",)), (4, value), 0), {"index": 2}) for value in NO_DEEDS
] + [(((3, ("cut",)), value, 0), {"index": 1}) for value in STRANGE + ((), (3, ("cut",), 0), (2, ("cut",)), (True, ("cut",)), (-1, ("cut",)))]
BAD_DEEDS_OF_ONE = given(*NO_DEEDS, (), (0, ("cut",)))
SETTINGS = (12, 8, 0, 1, 1, 2, 8, 0, 0)
BAD_SETTINGS = given(*STRANGE, (), 0, SETTINGS[:8], SETTINGS + (0,), put(SETTINGS, 0, 13), put(SETTINGS, 8, True), list(SETTINGS))
BAD_CLAIMED_STEPS = given(*NO_NUMBERS, -1, 401, LONG)
BAD_SNAPSHOTS = [(value, {"line": None}) for value in STRANGE + ((), 0) if not isinstance(value, str)] + [("", {"line": 0})]
BAD_LINES = [(value, {"line": None, "place": None}) for value in NO_TUPLES + (("show",) * 101, ("show", None), (b"show",), ("show", 0), ((),))]
FLOW = flow((PASSING, SENDING), ((1,), (2,)))
RUNNER = runners.started(FLOW, SETTINGS)

SIEVE_ARG = (SIEVE, "InvalidSieve", BAD_SIEVES)
PACKET_ARG = (PACKET, "InvalidPacket", BAD_PACKETS)
TABLES_ARG = (TABLES, "InvalidTables", BAD_TABLES)
RUN_ARG = (RUN, "InvalidRun", BAD_RUNS)
GRANT_ARG = (GRANT, "InvalidGrant", BAD_GRANTS)
WORD_ARG = (7, "InvalidNumber", BAD_WORDS)
FLAG_ARG = (1, "InvalidNumber", BAD_FLAGS)
STEPS_ARG = (3, "InvalidNumber", BAD_STEPS)
SOURCE_ARG = (SOURCE, "InvalidSource", BAD_SOURCES)
LISTING_ARG = (LISTING, "InvalidListing", BAD_LISTINGS)
WRITING_ARG = ("answer r0", "InvalidWriting", BAD_WRITINGS)
KNOWN_ARG = (ANY, "InvalidKnown", BAD_KNOWN)
STATE_ARG = (STATE, "InvalidState", BAD_STATES)
ROW_ARG = (("addn", 0, 7), "InvalidRow", BAD_ROWS)
PLACE_ARG = (0, "InvalidNumber", BAD_PLACES)
LEAST_ARG = (4, "InvalidNumber", BAD_LEAST)
TABLE_ARG = (TABLE, "InvalidTable", BAD_KNOWN_TABLES)
LIMIT_ARG = (12, "InvalidNumber", BAD_LIMITS)
FORM_ARG = (FORM, "InvalidForm", BAD_FORMS)
MOST_ARG = (12, "InvalidNumber", BAD_MOSTS)
SURE_ARG = ((0, 119), "InvalidSure", BAD_SURE)
TRANSLATION_ARG = (TRANSLATION, "InvalidTranslation", BAD_TRANSLATIONS)
HOST_ARG = (HOST, "InvalidHost", BAD_HOSTS)
MARKS_ARG = (MARKS, "InvalidMarks", BAD_MARKS)
MARK_ARG = (4, "InvalidNumber", BAD_MARK_NUMBERS)
CELLS_ARG = (4, "InvalidNumber", BAD_CELLS)
CHAIN_ARG = ((PASSING, SENDING), "InvalidChain", BAD_CHAINS)
COMING_ARG = (((9, (3,)),), "InvalidComing", BAD_COMING)
DEEDS_ARG = (((0, ("cell", 0, 0, 1)), (3, ("exchange", 1, PASSING)), (3, ("cut",))), "InvalidDeeds", BAD_DEEDS)
DEED_ARG = (("make", 0, 0), "InvalidDeed", BAD_DEEDS_OF_ONE)
SETTINGS_ARG = (SETTINGS, "InvalidSettings", BAD_SETTINGS)
# What is as this package tells it is never wrong.
FLOW_ARG = (FLOW, None, [])
RUNNER_ARG = (RUNNER, None, [])
CONSOLE_ARG = (console.fresh_console(), None, [])

# For each function its parameters in order: a right value, the error, wrong values and what it keeps.
FUNCTIONS = {
    packets.grant_for: {"packet": PACKET_ARG, "tables": TABLES_ARG, "writable": FLAG_ARG},
    runs.begun: {"packet": PACKET_ARG, "tables": TABLES_ARG, "clock": WORD_ARG, "writable": FLAG_ARG},
    runs.fits: {"grant": GRANT_ARG, "run": RUN_ARG},
    runs.one_step: {"sieve": SIEVE_ARG, "run": RUN_ARG},
    runs.run_on: {"sieve": SIEVE_ARG, "run": RUN_ARG, "steps": STEPS_ARG},
    runs.fault_of: {"sieve": SIEVE_ARG, "run": RUN_ARG},
    runs.answer_of: {"sieve": SIEVE_ARG, "run": RUN_ARG},
    runs.reckoned: {"op": ("xor", "InvalidName", BAD_NAMES), "one": WORD_ARG, "two": WORD_ARG},
    runs.does_hold: {"condition": ("nobit", "InvalidName", BAD_NAMES), "one": WORD_ARG, "two": WORD_ARG},
    sources.variables_in: {"source": SOURCE_ARG},
    sources.meant: {"source": SOURCE_ARG, "packet": PACKET_ARG, "tables": TABLES_ARG, "clock": WORD_ARG},
    sources.rounds_of: {"source": SOURCE_ARG},
    sources.read_source: {"writing": WRITING_ARG},
    sources.show_source: {"source": SOURCE_ARG},
    compiling.does_serve: {"source": SOURCE_ARG, "grant": GRANT_ARG},
    compiling.compiled: {"source": SOURCE_ARG, "grant": GRANT_ARG},
    listings.can_be_laid: {"listing": LISTING_ARG},
    listings.sieve_of: {"listing": LISTING_ARG},
    listings.read_listing: {"writing": WRITING_ARG},
    listings.show_listing: {"listing": LISTING_ARG},
    listings.show_sieve: {"sieve": SIEVE_ARG},
    known.is_so: {"known": KNOWN_ARG, "word": WORD_ARG, "run": RUN_ARG},
    known.tight: {"known": KNOWN_ARG},
    known.room_of: {"known": KNOWN_ARG, "least": LEAST_ARG},
    known.join: {"state": STATE_ARG, "other": STATE_ARG},
    known.is_within: {"state": STATE_ARG, "other": STATE_ARG},
    known.are_so: {"state": STATE_ARG, "run": RUN_ARG},
    known.entry: {"grant": GRANT_ARG},
    ways.reckoned_known: {"op": ("sub", "InvalidName", BAD_NAMES), "one": KNOWN_ARG, "two": KNOWN_ARG, "least": LEAST_ARG},
    ways.related_known: {"relation": ("from", "InvalidName", BAD_NAMES), "one": KNOWN_ARG, "two": KNOWN_ARG},
    ways.ways_of: {"row": ROW_ARG, "place": PLACE_ARG, "state": STATE_ARG, "grant": GRANT_ARG},
    ways.open_kind: {
        "row": ROW_ARG, "place": PLACE_ARG, "state": STATE_ARG, "grant": GRANT_ARG, "many": (1, "InvalidNumber", BAD_MANY),
    },
    inspector.flaws: {"sieve": SIEVE_ARG},
    inspector.steps_bound: {"sieve": SIEVE_ARG},
    inspector.told_table: {"sieve": SIEVE_ARG, "grant": GRANT_ARG},
    inspector.takes_table: {"sieve": SIEVE_ARG, "grant": GRANT_ARG, "table": TABLE_ARG},
    inspector.verdict: {"sieve": SIEVE_ARG, "grant": GRANT_ARG},
    inspector.sure_places: {"sieve": SIEVE_ARG, "grant": GRANT_ARG, "table": TABLE_ARG},
    blocks.is_ender: {"row": ROW_ARG},
    blocks.block_at: {"sieve": SIEVE_ARG, "place": PLACE_ARG, "limit": LIMIT_ARG},
    forms.form_of: {"sieve": SIEVE_ARG, "place": PLACE_ARG, "limit": LIMIT_ARG},
    forms.worked: {"run": RUN_ARG, "form": FORM_ARG, "most": MOST_ARG},
    forms.at_boundary: {"run": RUN_ARG, "form": FORM_ARG, "number": (1, "InvalidNumber", BAD_BOUNDARIES)},
    rewritings.steps_of: {"form": FORM_ARG, "sure": SURE_ARG},
    rewritings.rewritten: {"form": FORM_ARG, "step": (("fold", 0), "InvalidStep", BAD_STEPS_OF_FORMS), "sure": SURE_ARG},
    rewritings.better: {"form": FORM_ARG, "kept": ((0, 119), "InvalidKept", BAD_SURE), "sure": SURE_ARG},
    rewritings.led_through: {"form": FORM_ARG, "steps": ((("drop", 1),), "InvalidSteps", BAD_LED), "sure": SURE_ARG},
    rewritings.sum_of: {"form": FORM_ARG},
    hosts.host_row: {"row": (("add", 1, 2, 3), "InvalidRow", BAD_HOST_ROWS), "host": HOST_ARG},
    hosts.run_host: {"translation": TRANSLATION_ARG, "host": HOST_ARG, "run": RUN_ARG, "most": MOST_ARG},
    maps.entered: {"run": RUN_ARG},
    maps.left: {
        "run": RUN_ARG, "translation": TRANSLATION_ARG, "exit_number": (1, "InvalidNumber", BAD_EXITS), "host": HOST_ARG,
    },
    maps.passed: {"translation": TRANSLATION_ARG, "run": RUN_ARG, "most": MOST_ARG},
    judge.made_mark: {
        "marks": MARKS_ARG, "op": ("ones", "InvalidName", BAD_MARK_OPS), "one": MARK_ARG, "two": MARK_ARG,
    },
    judge.bound_of: {"marks": MARKS_ARG, "number": MARK_ARG},
    judge.worth_of: {
        "marks": MARKS_ARG, "number": MARK_ARG, "host": HOST_ARG, "words": ((7,), "InvalidWords", BAD_WORDS_READ),
    },
    judge.takes: {"form": FORM_ARG, "translation": TRANSLATION_ARG},
    making.made: {"form": FORM_ARG, "cells": CELLS_ARG},
    flows.link_of: {"sieve": SIEVE_ARG, "grant": GRANT_ARG},
    flows.flow_of: {"chain": CHAIN_ARG, "tables": TABLES_ARG, "coming": COMING_ARG},
    flows.fed: {"flow": FLOW_ARG, "coming": COMING_ARG},
    flows.dealt: {"flow": FLOW_ARG, "deed": DEED_ARG},
    flows.flowed: {"flow": FLOW_ARG, "deeds": DEEDS_ARG, "steps": STEPS_ARG},
    flows.tables_of: {"flow": FLOW_ARG},
    flows.steps_left: {"flow": FLOW_ARG},
    flows.free_steps: {"flow": FLOW_ARG, "deeds": DEEDS_ARG, "steps": STEPS_ARG},
    chains.joined: {"first": SIEVE_ARG, "second": SIEVE_ARG},
    runners.started: {"flow": FLOW_ARG, "settings": SETTINGS_ARG},
    runners.shown: {"runner": RUNNER_ARG},
    runners.tally: {"runner": RUNNER_ARG},
    runners.kept: {"runner": RUNNER_ARG},
    runners.links: {"runner": RUNNER_ARG},
    runners.leap: {"runner": RUNNER_ARG, "deeds": DEEDS_ARG, "steps": STEPS_ARG},
    runners.led: {"runner": RUNNER_ARG, "deeds": DEEDS_ARG, "steps": STEPS_ARG},
    runners.deeded: {"runner": RUNNER_ARG, "deed": DEED_ARG},
    runners.fed_runner: {"runner": RUNNER_ARG, "coming": COMING_ARG},
    runners.tale: {"runner": RUNNER_ARG, "deeds": DEEDS_ARG, "steps": STEPS_ARG},
    snapshots.write_snapshot: {"run": RUN_ARG},
    snapshots.read_snapshot: {"writing": (snapshots.write_snapshot(RUN), "InvalidSnapshot", BAD_SNAPSHOTS)},
    console.fresh_console: {},
    console.said: {"console": CONSOLE_ARG, "line": ("grant 0 0 0", "InvalidWriting", BAD_WRITINGS)},
    console.told_all: {"console": CONSOLE_ARG, "lines": (("show", ""), "InvalidWriting", BAD_LINES)},
    certificates.certify_meant: {"source": SOURCE_ARG, "packet": PACKET_ARG, "tables": TABLES_ARG, "clock": WORD_ARG},
    certificates.certify_compiled: {"source": SOURCE_ARG, "grant": GRANT_ARG},
    certificates.certify_verdict: {"sieve": SIEVE_ARG, "grant": GRANT_ARG},
    certificates.certify_form: {"sieve": SIEVE_ARG, "place": PLACE_ARG, "limit": LIMIT_ARG},
    certificates.certify_better: {"form": FORM_ARG, "kept": ((0, 119), "InvalidKept", BAD_SURE), "sure": SURE_ARG},
    certificates.certify_translation: {"form": FORM_ARG, "cells": CELLS_ARG},
    certificates.certify_passed: {"translation": TRANSLATION_ARG, "run": RUN_ARG, "most": MOST_ARG},
    certificates.certify_flow: {
        "chain": CHAIN_ARG, "tables": TABLES_ARG, "coming": COMING_ARG, "settings": SETTINGS_ARG, "deeds": DEEDS_ARG,
        "steps": (3, "InvalidNumber", BAD_CLAIMED_STEPS),
    },
    certificates.certify_joined: {"first": SIEVE_ARG, "second": SIEVE_ARG},
}

QUESTIONS = (
    packets.is_packet, packets.is_table, packets.are_tables, packets.is_grant,
    runs.is_row, runs.is_sieve, runs.is_run, sources.is_source, listings.is_listing,
    known.is_known, known.is_known_state, forms.is_form, rewritings.is_step, hosts.is_host, hosts.is_translation,
    flows.is_link, flows.are_settings,
)


def right_arguments(parameters):
    return {name: told[0] for name, told in parameters.items()}


class TestArguments(unittest.TestCase):
    def test_signatures(self):
        for function, parameters in FUNCTIONS.items():
            with self.subTest(function=function.__name__):
                self.assertEqual(list(inspect.signature(function).parameters), list(parameters))
        for question in QUESTIONS:
            self.assertEqual(list(inspect.signature(question).parameters), ["value"])

    def test_position_and_name_and_nothing_changed(self):
        for function, parameters in FUNCTIONS.items():
            if function is sources.read_source:
                parameters = {"writing": ("answer 0",)}
            right = right_arguments(parameters)
            with self.subTest(function=function.__name__):
                before = copy.deepcopy(right)
                told = function(*right.values())
                self.assertEqual(function(**right), told)
                self.assertEqual(function(**dict(reversed(right.items()))), told)
                self.assertEqual(repr(right), repr(before))

    def check(self, function, arguments, error, kept):
        for call in (lambda: function(**arguments), lambda: function(*arguments.values())):
            with self.assertRaises(errors.SieveError) as caught:
                call()
            self.assertIs(caught.exception.__class__, getattr(errors, error))
            self.assertEqual(repr(vars(caught.exception)), repr(kept))

    def test_each_wrong_value(self):
        for function, parameters in FUNCTIONS.items():
            for name, (_, error, wrong) in parameters.items():
                for value, kept in wrong:
                    with self.subTest(function=function.__name__, name=name, value=value):
                        arguments = {**right_arguments(parameters), name: value}
                        self.check(function, arguments, error, kept)

    def test_first_in_the_order_of_the_signature(self):
        for function, parameters in FUNCTIONS.items():
            checked = [name for name in parameters if parameters[name][2]]
            for first, second in combinations(checked, 2):
                with self.subTest(function=function.__name__, first=first, second=second):
                    _, error, wrong = parameters[first]
                    other = parameters[second][2][0][0]
                    arguments = {**right_arguments(parameters), first: wrong[0][0], second: other}
                    self.check(function, arguments, error, wrong[0][1])

    def test_given_is_what_was_passed(self):
        value = ([1], {"a": 2})
        with self.assertRaises(errors.InvalidGrant) as caught:
            known.entry(value)
        self.assertIs(caught.exception.given, value)

    def test_what_is_told_last(self):
        ended = put(RUN, 8, ("answer", 0))
        for error, function, arguments in (
            ("NotThere", forms.worked, (ended, FORM, 3)), ("InvalidNumber", forms.worked, (ended, FORM, 13)),
            ("NotThere", forms.at_boundary, (ended, FORM, 1)), ("InvalidNumber", forms.at_boundary, (ended, FORM, 2)),
            ("NotTaken", inspector.sure_places, (SIEVE, GRANT, (None, None))),
            ("InvalidTable", inspector.sure_places, (SIEVE, GRANT, (None, 0))),
            ("TooMany", flows.fed, (flows.fed(FLOW, ((0, ()),) * 49), ((0, ()),))),
            ("InvalidComing", flows.fed, (flows.fed(FLOW, ((0, ()),) * 49), ((0, ()), None))),
            ("TooMany", runners.fed_runner, (runners.fed_runner(RUNNER, ((0, ()),) * 49), ((0, ()),))),
            ("InvalidComing", runners.fed_runner, (runners.fed_runner(RUNNER, ((0, ()),) * 49), ((0, ()), None))),
            ("TooMany", chains.joined, (SIEVE * 60, SIEVE)), ("InvalidSieve", chains.joined, (SIEVE * 60, ())),
            ("NoBlock", certificates.certify_form, (SIEVE, 2, 12)), ("InvalidNumber", certificates.certify_form, (SIEVE, 2, 13)),
            ("NoSuchTable", certificates.certify_meant, ((("count", 4, ("number", 0)),), PACKET, TABLES, 0)),
            ("InvalidNumber", certificates.certify_meant, ((("count", 4, ("number", 0)),), PACKET, TABLES, 65536)),
            ("NotServed", certificates.certify_compiled, ((("count", 4, ("number", 0)),), GRANT)),
            ("TooMany", certificates.certify_compiled, ((("answer", ("pair", ("number", 0))),) * 12, GRANT)),
            ("TooMany", certificates.certify_joined, (SIEVE * 60, SIEVE)),
        ):
            with self.assertRaises(getattr(errors, error)):
                function(*arguments)

    def test_questions_of_strange_values(self):
        for question in QUESTIONS:
            for value in STRANGE + (0, 1, 10 ** 300, -1):
                with self.subTest(question=question.__name__, value=value):
                    self.assertIs(question(value), False)
                    self.assertIs(question(value=value), False)
