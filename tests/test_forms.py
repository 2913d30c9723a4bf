"""Points 31 and 32: which values are forms, and the form of a block row by row."""

import random
import unittest

from suresieves.forms import form_of, is_form
from tests import drawn
from tests.values import STRANGE, put

NONE, SLOTS, TURNS = (None,) * 8, (None,) * 16, (None,) * 4
START = (NONE, SLOTS, TURNS)
BOUNDARY = START


def told(registers=None, slots=None, counters=None):
    """A boundary that tells what these dicts tell."""
    out = []
    for parts, many in ((registers, 8), (slots, 16), (counters, 4)):
        out.append(tuple((parts or {}).get(k) for k in range(many)))
    return tuple(out)


def form_with(effects, end=("on",), many=1, boundaries=None, place=0):
    if boundaries is None:
        boundaries = (START,) * (many + 1)
    return (place, many, tuple(effects), tuple(boundaries), end)


GET = ("get", 0)
NUMBER = ("number", 100)
FULL = (
    3, 12,
    (
        GET, ("slot", 15), NUMBER, ("length",), ("clock",), ("one", "ones", 0), ("one", "mix", 1), ("one", "low", 2),
        ("do", "add", 0, 1), ("do", "right", 8, 8), ("byte", 2, 255, 0, 0), ("pair", 10, 0, 1, 1), ("cell", 3, 5, 3, 0),
        ("find", 0, 0, 4, 1), ("value", 13, 1, 5, 0), ("write", 0, 7, 14, 6, 0), ("fill", 2, 0, 11, 7, 1),
        ("change", 13, 1, 2, 9, 0), ("gone",), ("grow", 2, 2, 11, 1), ("number", 65535),
    ),
    tuple(
        told({0: 2, 7: 9}, {15: 4}, {3: 2}) if number in (0, 3, 5, 6, 9) else START if number == 12 else None
        for number in range(13)
    ),
    ("when", "below", 20, 14, 119),
)


class TestIsForm(unittest.TestCase):
    def yes(self, *forms):
        for form in forms:
            with self.subTest(form=form):
                self.assertIs(is_form(form), True)

    def no(self, *forms):
        for form in forms:
            with self.subTest(form=form):
                self.assertIs(is_form(form), False)

    def test_whole(self):
        self.yes(FULL, form_with(()))
        self.no((), FULL[:4], FULL + (None,), list(FULL), (FULL,))
        for index in range(5):
            for value in STRANGE + ((), (None,) * 13, 10 ** 300, -1):
                if (index, value) != (2, ()):
                    self.no(put(FULL, index, value))
        self.assertIs(is_form(put(form_with((GET,)), 2, ())), True)

    def test_place_and_many(self):
        for place in (0, 1, 118, 119):
            self.yes(form_with((), place=place))
        self.no(form_with((), place=-1), form_with((), place=120), form_with((), place=True))
        for many in range(1, 13):
            self.yes(form_with((), many=many, place=120 - many))
            self.no(form_with((), many=many, place=121 - many))
            self.no(form_with((), many=many, boundaries=(START,) * many), form_with((), many=many, boundaries=(START,) * (many + 2)))
        self.no(form_with((), many=0), form_with((), many=13), form_with((), many=-1, boundaries=()))

    def test_how_many_effects(self):
        self.yes(form_with((GET,) * 80))
        self.no(form_with((GET,) * 81))

    def test_plain_effects(self):
        for effect, bounds in (
            (("get",), (0, 7)), (("slot",), (0, 15)), (("number",), (0, 65535)),
        ):
            self.yes(form_with((effect + (bounds[0],), effect + (bounds[1],))))
            for value in STRANGE + (-1, bounds[1] + 1):
                self.no(form_with((effect + (value,),)))
            self.no(form_with((effect,)), form_with((effect + (0, 0),)))
        self.yes(form_with((("length",), ("clock",), ("gone",))))
        for head in ("length", "clock", "gone"):
            self.no(form_with(((head, 0),)), form_with(((head, None),)))
        for head in ("set", "take", "", "GET", "on", "low", "add"):
            self.no(form_with(((head,),)), form_with(((head, 0),)), form_with((GET, (head, 0, 0))))
        for value in STRANGE + ((), 0, (0,), ((),)):
            self.no(form_with((value,)), form_with((GET, value)))
        self.no(form_with(([*GET],)))

    def test_one_and_do(self):
        for op in ("ones", "mix", "low"):
            self.yes(form_with((GET, ("one", op, 0))))
            self.no(form_with((GET, ("do", op, 0, 0))))
        for op in drawn.OPS:
            self.yes(form_with((GET, ("do", op, 0, 0))))
            self.no(form_with((GET, ("one", op, 0))))
        for op in STRANGE + ("addn", "times", "clock", 0):
            self.no(form_with((GET, ("do", op, 0, 0))), form_with((GET, ("one", op, 0))))
        self.no(form_with((GET, ("one", "low"))), form_with((GET, ("one", "low", 0, 0))))
        self.no(form_with((GET, ("do", "add", 0))), form_with((GET, ("do", "add", 0, 0, 0))))

    def test_values_that_are_there(self):
        reads = (("one", "low", None), ("do", "add", None, 0), ("do", "add", 0, None), ("byte", None, 0, 0, 1),
                 ("pair", None, 0, 0, 1), ("cell", None, 0, 0, 1), ("find", None, 0, 0, 1), ("value", None, 0, 0, 1),
                 ("write", None, 0, 0, 0, 1), ("write", 0, 0, None, 0, 1), ("fill", None, 0, 0, 0, 1),
                 ("fill", 0, 0, None, 0, 1), ("change", None, 0, 0, 0, 1), ("change", 0, 0, None, 0, 1), ("grow", None, 0, 0, 1))
        ahead = (GET, ("gone",), ("write", 0, 0, 0, 0, 1), ("grow", 0, 0, 1, 1), ("byte", 0, 0, 2, 1))
        for effect in reads:
            at = effect.index(None)
            effect = effect if effect[0] in ("one", "do") else put(effect, len(effect) - 2, 3)
            for value in (0, 4):
                self.yes(form_with(ahead + (put(effect, at, value),), many=4))
            for value in (1, 2, 3, 5, 6, 80, -1, None, True, "0", (0,)):
                self.no(form_with(ahead + (put(effect, at, value),), many=4))

    def test_effects_that_reach(self):
        for head, at in (("byte", 2), ("pair", 2), ("write", 2)):
            effect = (head, 0, 0, 0, 0, 1) if head == "write" else (head, 0, 0, 0, 1)
            self.yes(form_with((GET, put(effect, at, 255))))
            for value in STRANGE + (-1, 256):
                self.no(form_with((GET, put(effect, at, value))))
        for head in ("cell", "find", "value", "fill", "change", "grow"):
            effect = (head, 0, 0, 0, 0, 1) if head in ("fill", "change") else (head, 0, 0, 0, 1)
            self.yes(form_with((GET, put(effect, 2, 5))))
            for value in STRANGE + (-1, 6):
                self.no(form_with((GET, put(effect, 2, value))))
        for effect in (("byte", 0, 0, 0, 0), ("find", 0, 0, 0, 1), ("write", 0, 0, 0, 0, 1), ("fill", 0, 0, 0, 0, 0),
                       ("change", 0, 0, 0, 0, 1), ("grow", 0, 0, 0, 1)):
            last = len(effect) - 1
            self.yes(form_with((GET, put(effect, last, 0))), form_with((GET, put(effect, last, 1))))
            for value in STRANGE + (-1, 2):
                self.no(form_with((GET, put(effect, last, value))), form_with((GET, put(effect, last - 1, value))))
            self.yes(form_with((GET, put(effect, last - 1, 11)), many=12))
            self.no(form_with((GET, put(effect, last - 1, 1))), form_with((GET, put(effect, last - 1, 12)), many=12))
            self.no(form_with((GET, effect[:-1])), form_with((GET, effect + (0,))))

    def test_rows_rise(self):
        def rows(*numbers):
            return form_with((GET,) + tuple(("byte", 0, 0, number, 1) for number in numbers), many=12)

        self.yes(rows(), rows(0), rows(11), rows(0, 1, 2), rows(*range(12)), rows(3, 7))
        self.no(rows(0, 0), rows(1, 0), rows(3, 7, 7), rows(3, 7, 5))
        self.no(form_with((GET, ("byte", 0, 0, 2, 1), ("grow", 0, 0, 2, 1)), many=12))
        self.no(form_with((GET, ("fill", 0, 0, 0, 2, 1), GET, ("gone",), ("grow", 0, 0, 1, 1)), many=12))

    def test_boundaries_that_have_to_be_told(self):
        effects = (GET, ("byte", 0, 0, 1, 0), ("cell", 0, 0, 2, 1), ("write", 0, 0, 0, 4, 0), ("grow", 0, 0, 5, 1))
        for number in range(7):
            form = form_with(effects, many=6, boundaries=put((START,) * 7, number, None))
            (self.no if number in (0, 1, 4, 6) else self.yes)(form)
        self.yes(form_with(effects, many=6, boundaries=(START, START, None, None, START, None, START)))

    def test_what_boundaries_tell(self):
        effects = (GET, NUMBER, ("number", 101), ("number", 0), ("gone",), ("grow", 0, 0, 0, 1))
        for part, many in ((0, 8), (1, 16), (2, 4)):
            for at in (0, many - 1):
                for value, good in ((None, True), (0, part != 2), (1, True), (2, part != 2), (3, True), (4, False), (5, False), (6, False)):
                    form = form_with(effects, boundaries=(START, put(START, part, put(START[part], at, value))))
                    (self.yes if good else self.no)(form)
                for value in STRANGE[1:] + (-1, -3, -4, 80):
                    self.no(form_with(effects, boundaries=(START, put(START, part, put(START[part], at, value)))))
            for parts in ((None,) * (many - 1), (None,) * (many + 1), [None] * many, None, 0, ()):
                self.no(form_with(effects, boundaries=(START, put(START, part, parts))))
        for value in STRANGE + ((), START[:2], START + (TURNS,), list(START), (START,), 0):
            self.no(form_with(effects, boundaries=(START, value)), form_with(effects, boundaries=(value, START)))

    def test_in_time(self):
        effects = (GET, ("byte", 0, 0, 1, 1), NUMBER, ("cell", 0, 0, 3, 0), ("length",), ("grow", 0, 0, 4, 1), ("clock",))
        # For each boundary the last value that it may tell.
        for number, last in enumerate((0, 0, 2, 2, 4, 6, 6)):
            for value in range(7):
                if value == 5:
                    continue
                form = form_with(effects, many=6, boundaries=put((START,) * 7, number, told({4: value})))
                (self.yes if value <= last else self.no)(form)
                form = form_with(effects, many=6, boundaries=put((START,) * 7, number, told({}, {9: value})))
                (self.yes if value <= last else self.no)(form)
        for number, good in ((0, False), (1, False), (2, True), (6, True)):
            form = form_with(effects, many=6, boundaries=put((START,) * 7, number, told({}, {}, {2: 2})))
            (self.yes if good else self.no)(form)

    def test_end(self):
        effects = (GET, ("gone",), NUMBER, ("write", 0, 0, 0, 0, 1))
        self.yes(*(form_with(effects, end) for end in (
            ("on",), ("jump", 0), ("jump", 119), ("when", "same", 0, 2, 0), ("when", "nobit", 2, 2, 119),
            ("again", 0, 1, 0), ("again", 3, 100, 119), ("answer", 0), ("answer", 2),
        )))
        self.no(*(form_with(effects, end) for end in STRANGE + (
            (), ("off",), ("on", 0), ["on"], ("jump",), ("jump", -1), ("jump", 120), ("jump", 0, 0), ("jump", True),
            ("when", "same", 0, 2), ("when", "same", 0, 2, 0, 0), ("when", "less", 0, 2, 0), ("when", 0, 0, 2, 0),
            ("when", "same", 1, 2, 0), ("when", "same", 0, 3, 0), ("when", "same", 4, 0, 0), ("when", "same", -1, 0, 0),
            ("when", "same", None, 0, 0), ("when", "same", -2, 0, 0), ("when", "same", 0, -4, 0),
            ("when", "same", 0, 0, 120), ("when", "same", 0, 0, -1), ("when", "same", 0, 0, None), ("whenn", "same", 0, 0, 0),
            ("again", 4, 1, 0), ("again", -1, 1, 0), ("again", 0, 0, 0), ("again", 0, 101, 0), ("again", 0, 1, 120),
            ("again", 0, 1, -1), ("again", 0, 1), ("again", 0, 1, 0, 0), ("again", True, 1, 0), ("again", 0, True, 0),
            ("answer",), ("answer", 1), ("answer", 3), ("answer", 4), ("answer", -1), ("answer", -2), ("answer", None), ("answer", True),
            ("answer", 0, 0), ("answer", "0"), ("when", ["same"], 0, 0, 0), (["on"],),
        )))

    def test_forms_that_are_made(self):
        chance = random.Random(32)
        for _ in range(300):
            sieve = drawn.sieve(chance, 4)
            for place in range(len(sieve)):
                form = form_of(sieve, place, chance.randint(1, 12))
                self.assertIs(is_form(form), True)


class TestFormOf(unittest.TestCase):
    def check(self, rows, effects, boundaries, end=("on",)):
        """Boundaries are told as dicts, the first one being as at the start."""
        with self.subTest(rows=rows):
            ahead = (("jump", 5), ("answer", 0))
            form = form_of(ahead + tuple(rows), 2, 12)
            self.assertEqual(form, (2, len(rows), tuple(effects), (START,) + tuple(told(*parts) for parts in boundaries), end))
            self.assertIs(is_form(form), True)

    def test_what_is_set(self):
        self.check((("set", 3, 65535),), (("number", 65535),), (({3: 0},),))
        self.check((("set", 3, 5), ("set", 3, 5)), (("number", 5), ("number", 5)), (({3: 0},), ({3: 1},)))
        self.check((("length", 3),), (("length",),), (({3: 0},),))
        self.check((("ask", 3, "clock", 4),), (("clock",),), (({3: 0},),))
        self.check((("ask", 3, "ones", 4),), (("get", 4), ("one", "ones", 0)), (({4: 0, 3: 1},),))
        self.check((("ask", 4, "mix", 4),), (("get", 4), ("one", "mix", 0)), (({4: 1},),))

    def test_what_is_carried(self):
        self.check((("move", 1, 2),), (("get", 2),), (({1: 0, 2: 0},),))
        self.check((("move", 2, 2),), (("get", 2),), (({2: 0},),))
        self.check((("move", 1, 2), ("move", 3, 1)), (("get", 2),), (({1: 0, 2: 0},), ({1: 0, 2: 0, 3: 0},)))
        self.check((("take", 1, 9),), (("slot", 9),), (({1: 0}, {9: 0}),))
        self.check((("take", 1, 9), ("take", 2, 9)), (("slot", 9),), (({1: 0}, {9: 0}), ({1: 0, 2: 0}, {9: 0})))
        self.check((("keep", 1, 9),), (("get", 1),), (({1: 0}, {9: 0}),))
        self.check((("keep", 1, 9), ("take", 2, 9)), (("get", 1),), (({1: 0}, {9: 0}), ({1: 0, 2: 0}, {9: 0})))
        self.check((("set", 1, 7), ("keep", 1, 0)), (("number", 7),), (({1: 0},), ({1: 0}, {0: 0})))

    def test_reckoned(self):
        for op in drawn.OPS:
            self.check(((op, 1, 2),), (("get", 1), ("get", 2), ("do", op, 0, 1)), (({1: 2, 2: 1},),))
            self.check(((op, 2, 1),), (("get", 2), ("get", 1), ("do", op, 0, 1)), (({2: 2, 1: 1},),))
            self.check(((op, 1, 1),), (("get", 1), ("do", op, 0, 0)), (({1: 1},),))
        for op in ("add", "and", "or", "xor", "left", "right"):
            self.check(((op + "n", 1, 3),), (("get", 1), ("number", 3), ("do", op, 0, 1)), (({1: 2},),))
        self.check((("addn", 1, 3), ("add", 1, 2)),
                   (("get", 1), ("number", 3), ("do", "add", 0, 1), ("get", 2), ("do", "add", 2, 3)),
                   (({1: 2},), ({1: 4, 2: 3},)))

    def test_readings(self):
        for head in ("byte", "pair"):
            self.check(((head, 1, 2, 255),), (("get", 2), (head, 0, 255, 0, 0)), (({1: 1, 2: 0},),))
            self.check((("set", 2, 3), (head, 2, 2, 0)), (("number", 3), (head, 0, 0, 1, 0)), (({2: 0},), ({2: 1},)))
        for head in ("cell", "find", "value"):
            self.check(((head, 1, 5, 2),), (("get", 2), (head, 0, 5, 0, 0)), (({1: 1, 2: 0},),))
            self.check((("set", 2, 3), (head, 2, 0, 2)), (("number", 3), (head, 0, 0, 1, 0)), (({2: 0},), ({2: 1},)))

    def test_changes(self):
        self.check((("write", 1, 2, 9),), (("get", 1), ("get", 2), ("write", 1, 9, 0, 0, 0)), (({1: 0, 2: 1},),))
        self.check((("write", 1, 1, 9),), (("get", 1), ("write", 0, 9, 0, 0, 0)), (({1: 0},),))
        for head in ("fill", "change"):
            self.check(((head, 1, 4, 2),), (("get", 1), ("get", 2), (head, 1, 4, 0, 0, 0)), (({1: 0, 2: 1},),))
            self.check(((head, 2, 4, 1),), (("get", 2), ("get", 1), (head, 1, 4, 0, 0, 0)), (({2: 0, 1: 1},),))
        self.check((("count", 4, 2),), (("get", 2), ("grow", 0, 4, 0, 0)), (({2: 0},),))
        self.check((("count", 4, 2), ("count", 4, 2)), (("get", 2), ("grow", 0, 4, 0, 0), ("grow", 0, 4, 1, 0)),
                   (({2: 0},), ({2: 0},)))

    def test_counters_and_ends(self):
        self.check((("begin", 2),), (("number", 0),), (({}, {}, {2: 0}),))
        self.check((("begin", 2), ("again", 2, 7, 3)), (("number", 0),), (({}, {}, {2: 0}), ({}, {}, {2: 0})), ("again", 2, 7, 3))
        self.check((("again", 2, 7, 3),), (), ((),), ("again", 2, 7, 3))
        self.check((("jump", 119),), (), ((),), ("jump", 119))
        self.check((("when", "bit", 1, 2, 9),), (("get", 1), ("get", 2)), (({1: 0, 2: 1},),), ("when", "bit", 0, 1, 9))
        self.check((("when", "bit", 1, 1, 9),), (("get", 1),), (({1: 0},),), ("when", "bit", 0, 0, 9))
        self.check((("whenn", "bit", 1, 2, 9),), (("get", 1), ("number", 2)), (({1: 0},),), ("when", "bit", 0, 1, 9))
        self.check((("set", 1, 5), ("whenn", "same", 1, 5, 9)), (("number", 5), ("number", 5)), (({1: 0},), ({1: 0},)),
                   ("when", "same", 0, 1, 9))
        self.check((("answer", 6),), (("get", 6),), (({6: 0},),), ("answer", 0))
        self.check((("length", 6), ("answer", 6)), (("length",),), (({6: 0},), ({6: 0},)), ("answer", 0))

    def test_the_last_row_of_a_sieve(self):
        self.assertEqual(form_of((("set", 0, 1),), 0, 12)[4], ("on",))
        self.assertEqual(form_of((("jump", 1), ("set", 0, 1), ("set", 0, 2)), 1, 1)[1:3], (1, (("number", 1),)))

    def test_no_such_place(self):
        for place in (2, 3, 119):
            self.assertIsNone(form_of((("jump", 1), ("answer", 0)), place, 12))
        self.assertEqual(form_of((("set", 0, 1),) * 120, 119, 12)[:2], (119, 1))
