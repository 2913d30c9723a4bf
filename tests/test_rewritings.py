"""Points 35 to 37: the steps by which forms are rewritten."""

import random
import unittest

from suresieves.forms import at_boundary, form_of, is_form, worked
from suresieves.rewritings import better, is_step, led_through, rewritten, steps_of, sum_of
from suresieves.runs import one_step
from tests import drawn
from tests.test_forms import START, form_with, told
from tests.test_worked import drawn_block
from tests.values import STRANGE, put

NUMBERS = {"drop": 1, "ended": 0, "fold": 1, "itself": 1, "nought": 1, "out": 1, "same": 2, "sure": 1, "told": 2}
GET, SLOT = ("get", 0), ("slot", 3)


def form_of_effects(effects, end=("on",), registers=None, many=12, counters=None, place=0):
    """A form of effects, of which the first and the last boundary are told, and those that have to be."""
    left = [effect[-2] for effect in effects if effect[0] in REACHING and effect[-1] == 0]
    boundaries = [START if number in left or number == 0 else None for number in range(many)]
    return (place, many, tuple(effects), tuple(boundaries) + (told(registers, None, counters),), end)


REACHING = ("byte", "pair", "cell", "find", "value", "write", "fill", "change", "grow")


class StepCase(unittest.TestCase):
    def takes(self, form, step, behind, sure=()):
        """A step can be taken, and the form behind it is told."""
        with self.subTest(step=step):
            self.assertTrue(is_form(form), form)
            self.assertEqual(rewritten(form, step, sure), behind)
            self.assertTrue(is_form(behind))
            self.assertIn(step, steps_of(form, sure))
            self.assertEqual(led_through(form, (step,), sure), behind)
            self.assertLess(sum_of(behind), sum_of(form))

    def takes_effect(self, form, step, effect, sure=()):
        """A step of an effect alone makes another effect of it."""
        self.takes(form, step, put(form, 2, put(form[2], step[1], effect)), sure)

    def refuses(self, form, *steps, sure=()):
        self.assertTrue(is_form(form), form)
        for step in steps:
            with self.subTest(step=step):
                self.assertIsNone(rewritten(form, step, sure))
                self.assertNotIn(step, steps_of(form, sure))
                self.assertIsNone(led_through(form, (step,), sure))


class TestIsStep(unittest.TestCase):
    def test_right(self):
        for name, many in NUMBERS.items():
            for number in (0, 1, 79, 10 ** 300):
                self.assertIs(is_step((name,) + (number,) * many), True)

    def test_wrong(self):
        for name, many in NUMBERS.items():
            self.assertIs(is_step((name,) + (0,) * (many + 1)), False)
            self.assertIs(is_step([name] + [0] * many), False)
            self.assertIs(is_step((name.upper(),) + (0,) * many), False)
            self.assertIs(is_step(((name,),) + (0,) * many), False)
            if many:
                self.assertIs(is_step((name,) + (0,) * (many - 1)), False)
            for at in range(many):
                for value in STRANGE + (-1, (), -10 ** 300):
                    self.assertIs(is_step((name,) + put((0,) * many, at, value)), False)
        for value in STRANGE + ((), 0, ("stop", 0), ("", 0), (0, 0), (None,)):
            self.assertIs(is_step(value), False)


class TestDropAndEnded(StepCase):
    def test_drop(self):
        effects = (GET, ("byte", 0, 0, 1, 0), ("cell", 0, 0, 2, 1), ("write", 0, 0, 0, 4, 0))
        form = form_with(effects, many=6)
        for number in (2, 3, 5):
            self.takes(form, ("drop", number), put(form, 3, put(form[3], number, None)))
        self.refuses(form, ("drop", 0), ("drop", 1), ("drop", 4), ("drop", 6), ("drop", 7), ("drop", 119), ("drop", 10 ** 30))
        self.refuses(put(form, 3, put(form[3], 2, None)), ("drop", 2))

    def test_ended(self):
        effects = (("number", 5), ("number", 6), GET, ("number", 5))
        for relation, one, two, holds in (
            ("same", 0, 1, False), ("same", 0, 3, True), ("same", 0, 0, True), ("other", 0, 1, True), ("below", 0, 1, True),
            ("below", 1, 0, False), ("from", 0, 3, True), ("bit", 0, 1, True), ("nobit", 0, 1, False),
        ):
            form = form_of_effects(effects, ("when", relation, one, two, 77))
            self.takes(form, ("ended",), put(form, 4, ("jump", 77) if holds else ("on",)))
        for end in (("when", "same", 0, 2, 7), ("when", "same", 2, 0, 7), ("when", "same", 2, 2, 7), ("on",), ("jump", 3),
                    ("again", 0, 5, 3), ("answer", 0)):
            self.refuses(form_of_effects(effects, end), ("ended",))


class TestPlainSteps(StepCase):
    def test_fold(self):
        effects = [("number", 513), ("number", 65535), GET]
        for effect, word in (
            (("one", "ones", 0), 2), (("one", "mix", 0), (513 * 40503 + 1) % 65536), (("one", "low", 0), 1),
            (("do", "add", 0, 1), 512), (("do", "sub", 0, 1), 514), (("do", "and", 0, 1), 513), (("do", "or", 0, 1), 65535),
            (("do", "xor", 0, 1), 65022), (("do", "left", 0, 1), 32768), (("do", "right", 1, 0), 32767),
            (("do", "add", 0, 0), 1026),
        ):
            self.takes_effect(form_of_effects(effects + [effect]), ("fold", 3), ("number", word))
            self.takes_effect(form_of_effects(effects + [effect], registers={1: 3}), ("fold", 3), ("number", word))
        for effect in (("one", "ones", 2), ("do", "add", 0, 2), ("do", "add", 2, 0), ("do", "add", 2, 2), GET, ("number", 9),
                       ("byte", 0, 0, 0, 1)):
            self.refuses(form_of_effects(effects + [effect]), ("fold", 3), ("fold", 0), ("fold", 2), ("fold", 4), ("fold", 80))

    def itself_form(self, op, word, is_used=True, y=("number", None)):
        effect = ("number", word) if y[0] == "number" else y
        return form_of_effects((GET, effect, ("do", op, 0, 1)), registers={4: 2, 5: 2} if is_used else {4: 1})

    def test_itself(self):
        for op, words, others in (
            ("add", (0,), (1, 65535)), ("sub", (0,), (1,)), ("or", (0,), (1, 65535)), ("xor", (0,), (1, 65535)),
            ("left", (0, 16, 32, 65520), (1, 15, 17)), ("right", (0, 16, 65520), (1, 8, 65535)),
            ("and", (65535,), (0, 32767, 65534)),
        ):
            for word in words:
                form = self.itself_form(op, word)
                self.takes(form, ("itself", 2), put(form, 3, form[3][:12] + (told({4: 0, 5: 0}),)))
                self.refuses(self.itself_form(op, word, False), ("itself", 2))
                self.refuses(form_of_effects((("number", word), GET, ("do", op, 0, 1)), registers={4: 2}), ("itself", 2))
            for word in others:
                self.refuses(self.itself_form(op, word), ("itself", 2))
            self.refuses(self.itself_form(op, None, True, SLOT), ("itself", 2), ("itself", 0), ("itself", 3))

    def test_itself_of_one_value(self):
        for op in ("and", "or"):
            form = form_of_effects((GET, ("do", op, 0, 0)), registers={4: 1})
            self.takes(form, ("itself", 1), put(form, 3, form[3][:12] + (told({4: 0}),)))
            self.refuses(form_of_effects((GET, GET, ("do", op, 0, 1)), registers={4: 2}), ("itself", 2))
        for op in ("add", "sub", "xor", "left", "right"):
            self.refuses(form_of_effects((GET, ("do", op, 0, 0)), registers={4: 1}), ("itself", 1))

    def test_put_wherever_it_is_named(self):
        effects = (
            GET, ("number", 0), ("do", "add", 0, 1), ("one", "mix", 2), ("do", "sub", 2, 2), ("do", "left", 3, 2),
            ("byte", 2, 2, 0, 0), ("pair", 2, 1, 1, 1), ("cell", 2, 2, 2, 1), ("find", 2, 2, 3, 1), ("value", 2, 2, 4, 1),
            ("write", 2, 2, 2, 5, 1), ("fill", 2, 2, 2, 6, 1), ("change", 2, 2, 2, 7, 1), ("grow", 2, 2, 8, 1), ("slot", 2),
            ("number", 2), ("get", 2),
        )
        behind = (
            GET, ("number", 0), ("do", "add", 0, 1), ("one", "mix", 0), ("do", "sub", 0, 0), ("do", "left", 3, 0),
            ("byte", 0, 2, 0, 0), ("pair", 0, 1, 1, 1), ("cell", 0, 2, 2, 1), ("find", 0, 2, 3, 1), ("value", 0, 2, 4, 1),
            ("write", 0, 2, 0, 5, 1), ("fill", 0, 2, 0, 6, 1), ("change", 0, 2, 0, 7, 1), ("grow", 0, 2, 8, 1), ("slot", 2),
            ("number", 2), ("get", 2),
        )
        boundaries = tuple(told({0: 2, 2: 3}, {2: 2, 15: 2}, {2: 1}) if number in (2, 9, 12) else START for number in range(13))
        replaced = tuple(told({0: 0, 2: 3}, {2: 0, 15: 0}, {2: 1}) if number in (2, 9, 12) else START for number in range(13))
        for end, ended in (
            (("when", "same", 2, 2, 2), ("when", "same", 0, 0, 2)), (("when", "same", 2, 3, 2), ("when", "same", 0, 3, 2)),
            (("when", "same", 3, 2, 2), ("when", "same", 3, 0, 2)), (("answer", 2), ("answer", 0)),
            (("again", 2, 2, 2), ("again", 2, 2, 2)), (("jump", 2), ("jump", 2)),
        ):
            self.takes((0, 12, effects, boundaries, end), ("itself", 2), (0, 12, behind, replaced, ended))

    def test_nought(self):
        for op in drawn.OPS:
            for registers in ({4: 1}, {}):
                form = form_of_effects((GET, ("do", op, 0, 0)), registers=registers)
                if op in ("sub", "xor"):
                    self.takes_effect(form, ("nought", 1), ("number", 0))
                else:
                    self.refuses(form, ("nought", 1))
        self.refuses(form_of_effects((GET, GET, ("do", "sub", 0, 1))), ("nought", 2), ("nought", 0), ("nought", 3))

    def test_out(self):
        plain = (GET, SLOT, ("number", 3), ("length",), ("clock",), ("one", "low", 0), ("do", "add", 0, 0))
        for effect in plain:
            form = form_of_effects((GET, effect), registers={0: 0})
            self.takes_effect(form, ("out", 1), ("gone",))
            self.refuses(form_of_effects((GET, effect), registers={0: 1}), ("out", 1))
            self.refuses(form_of_effects((GET, effect), ("answer", 1)), ("out", 1))
            self.refuses(form_of_effects((GET, effect), ("when", "same", 0, 1, 1)), ("out", 1), ("out", 0))
            self.refuses(form_of_effects((GET, effect, ("one", "low", 1))), ("out", 1))
            self.refuses(form_of_effects((GET, effect, ("grow", 1, 0, 0, 1))), ("out", 1))
        for head in ("byte", "pair", "cell", "find", "value"):
            self.takes_effect(form_of_effects((GET, (head, 0, 0, 0, 1))), ("out", 1), ("gone",))
            self.refuses(form_of_effects((GET, (head, 0, 0, 0, 0))), ("out", 1))
            self.refuses(form_of_effects((GET, (head, 0, 0, 0, 1)), registers={0: 1}), ("out", 1))
        for effect in (("write", 0, 0, 0, 0, 1), ("fill", 0, 0, 0, 0, 1), ("change", 0, 0, 0, 0, 1), ("grow", 0, 0, 0, 1), ("gone",)):
            self.refuses(form_of_effects((GET, effect)), ("out", 1), ("out", 2))
        # A boundary that is told in between uses a value, too.
        form = form_with((GET,), boundaries=(told({3: 0}), START))
        self.refuses(form, ("out", 0))
        form = form_with((("number", 3),), boundaries=(START, told({}, {}, {1: 0})))
        self.refuses(form, ("out", 0))

    def test_same(self):
        plain = (SLOT, ("number", 3), ("length",), ("clock",), ("one", "low", 0), ("do", "add", 0, 0), ("get", 5))
        for effect in plain:
            form = form_of_effects((GET, effect, SLOT, effect), registers={0: 3})
            self.takes(form, ("same", 3, 1), put(form, 3, form[3][:12] + (told({0: 1}),)))
            self.refuses(form, ("same", 1, 3), ("same", 3, 3), ("same", 3, 0), ("same", 1, 1), ("same", 4, 1), ("same", 4, 4))
            self.refuses(form_of_effects((GET, effect, SLOT, effect), registers={0: 1}), ("same", 3, 1))
        for one, two in ((("get", 0), ("get", 1)), (("get", 3), ("slot", 3)), (("number", 3), ("number", 4)),
                         (("one", "low", 0), ("one", "mix", 0)), (("do", "add", 0, 1), ("do", "add", 1, 0)),
                         (("do", "add", 0, 1), ("do", "sub", 0, 1)), (("length",), ("clock",))):
            self.refuses(form_of_effects((GET, SLOT, one, two), registers={0: 3}), ("same", 3, 2))
        for head in ("byte", "cell", "find"):
            self.refuses(form_of_effects((GET, (head, 0, 0, 0, 1), (head, 0, 0, 1, 1)), registers={0: 2}), ("same", 2, 1))
        self.refuses(form_of_effects((("gone",), ("gone",))), ("same", 1, 0))
        number = form_of_effects((("number", 100), ("number", 100)), counters={3: 1})
        self.takes(number, ("same", 1, 0), put(number, 3, number[3][:12] + (told({}, {}, {3: 0}),)))
        three = form_of_effects((GET, GET, GET), registers={1: 2})
        self.assertEqual([step for step in steps_of(three, ()) if step[0] == "same"], [("same", 2, 0), ("same", 2, 1)])

    def test_sure(self):
        effects = tuple((head, 0, 0, 0, row, 0) if head in ("write", "fill", "change") else (head, 0, 0, row, 0)
                        for row, head in enumerate(REACHING))
        form = form_of_effects((GET,) + effects, place=30)
        for row, effect in enumerate(effects):
            self.takes_effect(form, ("sure", row + 1), effect[:-1] + (1,), (1, 30 + row))
            self.refuses(form, ("sure", row + 1), sure=())
            self.refuses(form, ("sure", row + 1), sure=(row, 29 + row, 31 + row))
            behind = put(form, 2, put(form[2], row + 1, effect[:-1] + (1,)))
            self.refuses(behind, ("sure", row + 1), sure=(30 + row,))
        self.refuses(form, ("sure", 0), ("sure", 10), ("sure", 80), sure=tuple(range(120)))


class TestTold(StepCase):
    """The step told: K is the last effect of a form, J the one at 8; values 0 to 7 stand ahead of them."""

    AHEAD = (GET, SLOT, ("number", 4), ("number", 4), ("number", 5), ("number", 65535), ("length",), ("gone",))

    def form(self, *effects):
        """A form of these effects, the rows of which rise."""
        out, row = list(self.AHEAD), 0
        for effect in effects:
            if effect[0] in REACHING:
                effect, row = effect[:-1] + (row,) + effect[-1:], row + 1
            out.append(effect)
        return form_of_effects(out, registers={3: len(out) - 1, 5: 0})

    def tells(self, *effects, by=8):
        """The last effect is told by the one at 8, a reading."""
        form = self.form(*effects)
        last = len(form[2]) - 1
        behind = put(form, 3, form[3][:12] + (told({3: by, 5: 0}),))
        behind = put(behind, 2, put(behind[2], last, ("gone",)))
        self.takes(form, ("told", last, 8), behind)

    def keeps(self, *effects):
        """The last effect is not told by the one at 8."""
        form = self.form(*effects)
        last = len(form[2]) - 1
        self.refuses(form, ("told", last, 8), ("told", last, last), ("told", 8, last), ("told", last, 7), ("told", last + 1, 8))

    def test_readings_of_bytes(self):
        for head in ("byte", "pair"):
            for sure, other in ((0, 0), (0, 1), (1, 0), (1, 1)):
                self.tells((head, 0, 7, sure), (head, 0, 7, other))
            self.keeps((head, 0, 7, 0), (head, 0, 8, 0))
            self.keeps((head, 0, 7, 0), (head, 1, 7, 0))
            self.keeps((head, 0, 7, 0), (head, 2, 7, 0))
            self.tells((head, 2, 7, 0), (head, 3, 7, 0))
            self.tells((head, 2, 8, 0), (head, 4, 7, 0))
            self.tells((head, 4, 254, 0), (head, 2, 255, 0))
            self.keeps((head, 2, 7, 0), (head, 4, 7, 0))
            self.keeps((head, 2, 7, 0), (head, 5, 7, 0))
        self.keeps(("byte", 0, 7, 0), ("pair", 0, 7, 0))
        self.keeps(("pair", 0, 7, 0), ("byte", 0, 7, 0))

    def test_readings_of_tables(self):
        for head in ("cell", "find", "value"):
            for sure, other in ((0, 0), (1, 0), (1, 1)):
                self.tells((head, 0, 2, sure), (head, 0, 2, other))
            self.tells((head, 2, 2, 0), (head, 3, 2, 0))
            self.keeps((head, 0, 2, 0), (head, 0, 3, 0))
            self.keeps((head, 0, 2, 0), (head, 1, 2, 0))
            self.keeps((head, 2, 2, 0), (head, 4, 2, 0))
            # What would be the same sum of a packet place is another table.
            self.keeps((head, 2, 2, 0), (head, 4, 1, 0))
            for other in ("cell", "find", "value"):
                if other != head:
                    self.keeps((head, 0, 2, 0), (other, 0, 2, 0))

    def test_values_that_are_not_used(self):
        form = form_of_effects((GET, ("byte", 0, 0, 0, 0), ("byte", 0, 0, 1, 0)))
        self.takes_effect(form, ("told", 2, 1), ("gone",))

    def test_writes_between(self):
        for write, byte, pair in (
            ((0, 7), True, True), ((0, 8), False, True), ((0, 6), False, False), ((0, 9), False, False),
            ((1, 7), True, True), ((1, 99), True, True), ((2, 7), True, True),
        ):
            for head, touched in (("byte", byte), ("pair", pair)):
                check = self.keeps if touched else self.tells
                check((head, 0, 7, 0), ("write",) + write + (1, 0), (head, 0, 7, 0))
        for write, byte, pair in (
            ((2, 7), True, True), ((3, 8), False, True), ((2, 6), False, False), ((4, 8), False, False), ((4, 6), True, True),
            ((4, 7), False, True), ((0, 7), True, True), ((5, 0), False, False),
        ):
            for head, touched in (("byte", byte), ("pair", pair)):
                check = self.keeps if touched else self.tells
                check((head, 2, 7, 0), ("write",) + write + (1, 0), (head, 2, 7, 0))
        # The places of a pair at the end of S: that of its second byte is one beyond.
        self.keeps(("pair", 2, 255, 0), ("write", 4, 255, 1, 0), ("pair", 2, 255, 0))
        self.tells(("byte", 2, 255, 0), ("write", 4, 255, 1, 0), ("byte", 2, 255, 0))

    def test_changes_between(self):
        for change in ("fill", "change", "grow"):
            def changed(x, t):
                return (change, x, t, 0) if change == "grow" else (change, x, t, 1, 0)

            for head in ("cell", "value"):
                self.keeps((head, 0, 2, 0), changed(0, 2), (head, 0, 2, 0))
                self.keeps((head, 0, 2, 0), changed(1, 2), (head, 0, 2, 0))
                self.keeps((head, 0, 2, 0), changed(2, 2), (head, 0, 2, 0))
                self.tells((head, 0, 2, 0), changed(0, 3), (head, 0, 2, 0))
                self.tells((head, 2, 2, 0), changed(4, 2), (head, 3, 2, 0))
                self.tells((head, 2, 0, 0), changed(4, 0), (head, 3, 0, 0))
                self.keeps((head, 2, 2, 0), changed(3, 2), (head, 2, 2, 0))
                self.keeps((head, 2, 2, 0), changed(0, 2), (head, 2, 2, 0))
                self.keeps((head, 2, 2, 0), changed(4, 2), changed(0, 3), changed(3, 2), (head, 2, 2, 0))
            self.tells(("find", 0, 2, 0), changed(0, 2), ("find", 0, 2, 0))
            for head in ("byte", "pair"):
                self.tells((head, 0, 2, 0), changed(0, 2), (head, 0, 2, 0))
        for head in ("cell", "find", "value"):
            self.tells((head, 0, 2, 0), ("write", 0, 2, 1, 0), (head, 0, 2, 0))
        # Readings, and what is gone, touch nothing.
        self.tells(("byte", 0, 7, 0), ("byte", 1, 7, 0), ("gone",), ("number", 3), ("byte", 0, 7, 0))

    def test_writes_that_tell(self):
        for place, other in (((0, 7), (0, 7)), ((2, 7), (3, 7)), ((2, 8), (4, 7))):
            for sure in (0, 1):
                form = self.form(("write",) + place + (1, sure), ("byte",) + other + (1 - sure,))
                self.takes_effect(form, ("told", 9, 8), ("one", "low", 1))
            self.keeps(("write",) + place + (1, 0), ("pair",) + other + (0,))
        self.keeps(("write", 0, 7, 1, 0), ("byte", 0, 8, 0))
        self.keeps(("write", 0, 7, 1, 0), ("byte", 1, 7, 0))
        self.keeps(("write", 0, 7, 1, 0), ("write", 0, 7, 0, 0), ("byte", 0, 7, 0))
        self.keeps(("write", 0, 7, 1, 0), ("write", 1, 0, 0, 0), ("byte", 0, 7, 0))
        form = self.form(("write", 0, 7, 1, 0), ("write", 0, 8, 0, 0), ("grow", 0, 0, 0), ("byte", 0, 7, 0))
        self.takes_effect(form, ("told", 11, 8), ("one", "low", 1))
        # The later one of two writes tells.
        form = self.form(("write", 0, 7, 1, 0), ("write", 0, 7, 0, 0), ("byte", 0, 7, 0))
        self.takes_effect(form, ("told", 10, 9), ("one", "low", 0))

    def test_changes_that_tell(self):
        for change, head, other in (("fill", "cell", "value"), ("change", "value", "cell")):
            self.tells((change, 0, 2, 1, 0), (head, 0, 2, 0), by=1)
            self.tells((change, 2, 2, 6, 1), (head, 3, 2, 0), by=6)
            self.tells((change, 2, 2, 6, 1), (change, 4, 2, 0, 0), ("grow", 4, 2, 0), (head, 3, 2, 0), by=6)
            self.keeps((change, 0, 2, 1, 0), (other, 0, 2, 0))
            self.keeps((change, 0, 2, 1, 0), ("find", 0, 2, 0))
            self.keeps((change, 0, 2, 1, 0), ("byte", 0, 2, 0))
            self.keeps((change, 0, 2, 1, 0), (head, 1, 2, 0))
            self.keeps((change, 0, 2, 1, 0), (head, 0, 3, 0))
            self.keeps((change, 2, 2, 1, 0), (head, 4, 2, 0))
            self.keeps((change, 0, 2, 1, 0), ("grow", 0, 2, 0), (head, 0, 2, 0))
            self.keeps((change, 0, 2, 1, 0), ("grow", 1, 2, 0), (head, 0, 2, 0))
        self.keeps(("grow", 0, 2, 0), ("cell", 0, 2, 0))
        # What is put may be a value above X: this still saves.
        ahead = form_of_effects((GET,) + (("gone",),) * 70 + (("clock",), ("fill", 0, 0, 71, 0, 0), ("cell", 0, 0, 1, 0)),
                                registers={1: 73})
        behind = put(put(ahead, 2, put(ahead[2], 73, ("gone",))), 3, ahead[3][:12] + (told({1: 71}),))
        self.takes(ahead, ("told", 73, 72), behind)

    def test_what_is_no_reading(self):
        for effect in (("write", 0, 7, 1, 0), ("grow", 0, 2, 0), ("fill", 0, 2, 1, 0)):
            form = form_of_effects(self.AHEAD + tuple(effect[:-1] + (row,) + effect[-1:] for row in range(2)))
            self.refuses(form, ("told", 9, 8))
        self.refuses(form_of_effects((GET, GET)), ("told", 1, 0))


def likely_block(chance):
    """A block in which all kinds of steps can be taken."""
    rows = list(drawn_block(chance))
    for _ in range(chance.randint(1, 3)):
        a, b, c = (chance.randrange(4) for _ in range(3))
        at = chance.randrange(len(rows))
        s = chance.randrange(2)
        rows[at:at] = chance.choice((
            [("sub", a, a)], [("xor", a, a)], [("addn", a, 0)], [("andn", a, 65535)], [("or", a, a)], [("leftn", a, 0)],
            [("byte", a, b, s), ("byte", c, b, s)],
            [("write", a, b, s), ("byte", c, b, s)], [("write", a, b, s), ("pair", c, b, s)],
            [("set", b, 1), ("fill", a, 0, b), ("cell", c, 0, b)], [("set", b, 1), ("change", a, 1, b), ("value", c, 1, b)],
            [("set", b, 2), ("cell", a, 0, b), ("count", 0, b), ("cell", c, 0, b)], [("find", a, 1, b), ("find", c, 1, b)],
            [("cell", a, 2, b), ("cell", c, 2, b)], [("set", a, 3), ("set", b, 4), ("fill", c, 0, a), ("cell", c, 0, b)],
        ))
    end = chance.choice(([], [], [("set", 0, 3), ("whenn", chance.choice(drawn.RELATIONS), 0, 3, 9)], [("answer", 1)]))
    rows = [row for row in rows if row[0] not in ("jump", "when", "whenn", "again", "answer")][:12 - len(end)]
    return tuple(rows + end)


class TestAll(unittest.TestCase):
    def drawn_form(self, chance):
        place = chance.randrange(4)
        return form_of((("jump", 0),) * place + likely_block(chance), place, 12)

    def all_of(self, form, sure):
        """All steps that can be taken, tried one by one."""
        found = [("ended",)] if rewritten(form, ("ended",), sure) else []
        found += [("drop", k) for k in range(15) if rewritten(form, ("drop", k), sure)]
        many = len(form[2]) + 1
        for name, numbers in NUMBERS.items():
            if name not in ("drop", "ended"):
                for k in range(many):
                    for step in ([(name, k)] if numbers == 1 else [(name, k, j) for j in range(k + 2)]):
                        if rewritten(form, step, sure) is not None:
                            found.append(step)
        return tuple(sorted(found))

    def test_all_steps_ascending(self):
        chance = random.Random(35)
        names = set()
        for _ in range(45):
            form = self.drawn_form(chance)
            sure = tuple(sorted(chance.sample(range(12), chance.randint(0, 6))))
            for _ in range(chance.randint(0, 9)):
                steps = [step for step in steps_of(form, sure) if step[0] != "drop"]
                form = rewritten(form, chance.choice(steps), sure) if steps else form
            steps = steps_of(form, sure)
            self.assertEqual(steps, self.all_of(form, sure))
            names |= {step[0] for step in steps}
            for step in steps:
                behind = rewritten(form, step, sure)
                self.assertTrue(is_form(behind))
                self.assertLess(sum_of(behind), sum_of(form))
        self.assertEqual(names, set(NUMBERS))

    def test_better_takes_always_the_first(self):
        chance = random.Random(36)
        for _ in range(60):
            form = self.drawn_form(chance)
            sure = tuple(sorted(chance.sample(range(12), chance.randint(0, 6))))
            kept = tuple(sorted(chance.sample(range(14), chance.randint(0, 14))))
            at, taken = form, []
            while True:
                steps = [step for step in steps_of(at, sure) if step[0] != "drop" or step[1] not in kept]
                if not steps:
                    break
                taken.append(steps[0])
                at = rewritten(at, steps[0], sure)
            self.assertEqual(better(form, kept, sure), (at, tuple(taken)))
            self.assertEqual(led_through(form, tuple(taken), sure), at)
            for number in kept:
                if number <= form[1]:
                    self.assertEqual(at[3][number] is None, form[3][number] is None)

    def test_led_through(self):
        form = form_of_effects((("number", 1), ("number", 2), ("do", "add", 0, 1)), registers={0: 2})
        steps = (("fold", 2), ("out", 0), ("out", 1))
        behind = put(form, 2, (("gone",), ("gone",), ("number", 3)))
        self.assertEqual(led_through(form, steps, ()), behind)
        self.assertEqual(led_through(form, (), ()), form)
        self.assertIsNone(led_through(form, steps[1:] + steps[:1], ()))
        self.assertIsNone(led_through(form, steps + steps[:1], ()))
        self.assertIsNone(led_through(form, (("drop", 1),) + steps, ()))


class TestSum(unittest.TestCase):
    def test_by_hand(self):
        self.assertEqual(sum_of(form_with(())), 2)
        self.assertEqual(sum_of(form_with((), many=12)), 13)
        self.assertEqual(sum_of(form_of_effects(())), 2)
        for effect, many in (
            (GET, 1), (SLOT, 1), (("number", 9), 1), (("length",), 1), (("clock",), 1), (("gone",), 0), (("one", "low", 3), 5),
            (("do", "add", 3, 3), 8), (("do", "add", 0, 3), 5), (("byte", 3, 9, 5, 0), 104), (("byte", 3, 9, 5, 1), 103),
            (("pair", 3, 9, 5, 0), 104), (("cell", 3, 4, 5, 1), 103), (("find", 3, 4, 5, 0), 104), (("value", 0, 4, 5, 0), 101),
            (("write", 3, 9, 0, 5, 0), 6), (("write", 3, 9, 3, 5, 1), 8), (("fill", 3, 4, 3, 5, 0), 9), (("change", 0, 4, 0, 5, 1), 2),
            (("grow", 3, 4, 5, 0), 6), (("grow", 3, 4, 5, 1), 5),
        ):
            boundaries = (START,) * 13
            form = form_with((GET,) * 4 + (effect,), many=12, boundaries=boundaries)
            self.assertEqual(sum_of(form), 13 + 4 + many, effect)
        effects = (GET, ("gone",), ("number", 3))
        for end, many in ((("on",), 0), (("jump", 9), 0), (("again", 3, 9, 9), 0), (("answer", 2), 2), (("answer", 0), 0),
                          (("when", "same", 2, 2, 9), 5), (("when", "same", 0, 2, 9), 3)):
            self.assertEqual(sum_of(form_of_effects(effects, end)), 2 + 2 + many)
        self.assertEqual(sum_of(form_of_effects(effects, registers={0: 2, 7: 2})), 8)
        form = form_with(effects, boundaries=(told({1: 2}, {2: 2}, {3: 2}), told({}, {15: 2})))
        self.assertEqual(sum_of(form), 2 + 2 + 8)


class TestBesideTheFormAhead(unittest.TestCase):
    """Behind steps a form is left in the same way, with the same run."""

    def sure_rows(self, sieve, place, runs):
        """The places at which no row faults in any of the runs."""
        faulting = set()
        for run in runs:
            for _ in range(12):
                behind = one_step(sieve, run)
                if behind[8] is not None and behind[8][0] == "fault":
                    faulting.add(run[3])
                    break
                if behind[8] is not None or behind[3] != run[3] + 1:
                    break
                run = behind
        return tuple(place + number for number in range(12) if place + number not in faulting and place + number < 120)

    def check(self, form, behind, runs):
        for run in runs:
            many = form[1]
            self.assertEqual(worked(run, behind, 12), worked(run, form, 12))
            for number in range(many + 1):
                if behind[3][number] is not None:
                    self.assertEqual(at_boundary(run, behind, number), at_boundary(run, form, number))
            for most in range(many):
                how, told_run = worked(run, behind, most)
                if how[0] == "most":
                    self.assertEqual(told_run, at_boundary(run, form, how[1]))
                else:
                    self.assertEqual((how, told_run), worked(run, form, 12))

    def test_drawn(self):
        chance = random.Random(37)
        taken = {}
        for _ in range(110):
            place = chance.randrange(5)
            sieve = (("jump", 0),) * place + likely_block(chance)
            form = form_of(sieve, place, 12)
            runs = [drawn.midway(chance, drawn.GRANT, place) for _ in range(4)]
            sure = self.sure_rows(sieve, place, runs)
            sure = tuple(sorted(chance.sample(sure, chance.randint(0, len(sure)))))
            at = form
            for _ in range(25):
                steps = steps_of(at, sure)
                if not steps:
                    break
                names = sorted({step[0] for step in steps})
                name = chance.choice(names)
                step = chance.choice([step for step in steps if step[0] == name])
                at = rewritten(at, step, sure)
                taken[name] = taken.get(name, 0) + 1
                if len(steps) % 3 == 0:
                    self.check(form, at, runs[:1])
            self.check(form, at, runs)
            self.check(form, better(form, (), sure)[0], runs)
        for name in NUMBERS:
            self.assertGreater(taken.get(name, 0), 4, name)
