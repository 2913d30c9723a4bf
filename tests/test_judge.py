"""Points 42 and 45 to 47: which translations the judge takes, and that they are right."""

import random
import unittest

from suresieves.forms import form_of, is_form, worked
from suresieves.hosts import is_translation, run_host
from suresieves.judge import takes
from suresieves.maps import entered, left
from suresieves.rewritings import better
from tests import drawn
from tests.second_judge import takes_too
from tests.test_forms import NONE, SLOTS, START, TURNS, form_with, told
from tests.test_hosts import TOP
from tests.test_rewritings import likely_block
from tests.test_worked import drawn_block
from tests.translating import plainly
from tests.values import put

MOST = ("most", 0, 0)


def exit_of(number, why, place, registers=None, slots=None, counters=None, answer=None):
    """An exit with the spots that these dicts tell."""
    return (number, why, place, answer) + told(registers, slots, counters)


def cell(c):
    return ("cell", c)


class JudgeCase(unittest.TestCase):
    def both(self, form, translation):
        """Whether the judge takes it: the second judge says the same."""
        self.assertTrue(is_form(form), form)
        self.assertTrue(is_translation(translation), translation)
        is_taken = takes(form, translation)
        self.assertIs(is_taken, takes_too(form, translation), (form, translation))
        return is_taken

    def host(self, chance, run):
        """A HOST entered from a run, cells and all other boxes holding anything."""
        boxes = entered(run)[1][:30] + tuple(chance.choice((0, 1, TOP, chance.randint(0, TOP))) for _ in range(82))
        return tuple(chance.choice((0, 1, TOP, chance.randint(0, TOP))) for _ in range(12)), boxes

    def is_right(self, chance, form, translation, run, most):
        """Whether it is left as the form is worked."""
        (how, number), behind = worked(run, form, most)
        host, changed, x = run_host(translation, self.host(chance, run), run, most)
        exit_told = translation[1][x]
        why = "end" if how == "done" else how
        return exit_told[:2] == (number, why) and left(changed, translation, x, host) == behind

    def goes_right(self, form, translation, runs=6, seed=1):
        """What is taken is left as the form is worked, in drawn runs and hosts, for each MOST."""
        chance = random.Random(seed)
        for _ in range(runs):
            run = drawn.midway(chance, drawn.GRANT, form[0])
            run = put(run, 9, chance.choice((0, 1)))
            for most in sorted({0, 1, form[1] - 1, form[1], 12, chance.randrange(13)}):
                self.assertTrue(self.is_right(chance, form, translation, run, most), (form, translation, run, most))

    def taken(self, form, rows, exits):
        with self.subTest(rows=rows):
            self.assertIs(self.both(form, (tuple(rows), tuple(exits))), True)
            self.goes_right(form, (tuple(rows), tuple(exits)))

    def refused(self, form, rows, exits):
        with self.subTest(rows=rows, exits=exits):
            self.assertIs(self.both(form, (tuple(rows), tuple(exits))), False)


def form_of_one(effects, registers=None, end=("on",), many=1, place=5, slots=None, counters=None):
    return form_with(effects, end, many, (START,) * many + (told(registers, slots, counters),), place)


class TestPlainRows(JudgeCase):
    """Forms of one row: boundaries 0 and 1."""

    def word(self, effects, rows, spot, is_taken=True, value=None):
        """Register 3 is the last value, which lies in a spot behind the rows."""
        form = form_of_one(effects, {3: len(effects) - 1 if value is None else value})
        exits = (exit_of(0, "most", 5), exit_of(1, "end", 6, {3: spot}))
        (self.taken if is_taken else self.refused)(form, (MOST,) + tuple(rows) + (("leave", 1),), exits)

    def test_what_lies_in_boxes(self):
        self.word((("get", 7),), (), ("box", 7))
        self.word((("get", 7),), (), ("box", 6), False)
        self.word((("get", 7),), (("take", 2, 7),), cell(2))
        self.word((("get", 7),), (("take", 2, 7), ("keep", 111, 2)), ("box", 111))
        self.word((("get", 7),), (("take", 2, 7), ("move", 5, 2), ("set", 2, 3)), cell(5))
        self.word((("get", 7),), (("take", 2, 7), ("set", 2, 3)), cell(2), False)
        self.word((("get", 7),), (("set", 2, 3), ("keep", 7, 2)), ("box", 7), False)
        self.word((("get", 3),), (), ("box", 3))
        self.word((("get", 3),), (), None)
        self.word((("get", 3),), (("set", 0, 9), ("keep", 3, 0)), None)
        self.word((("get", 2),), (), None, False)
        self.word((("slot", 15),), (), ("box", 23))
        self.word((("length",),), (), ("box", 28))
        self.word((("clock",),), (), ("box", 29))
        self.word((("clock",),), (), ("box", 30), False)
        self.word((("clock",),), (), cell(0), False)

    def test_numbers(self):
        self.word((("number", 65535),), (), ("number", 65535))
        self.word((("number", 65535),), (("set", 4, 65535),), cell(4))
        self.word((("number", 65535),), (("set", 4, 65534),), cell(4), False)
        self.word((("number", 8),), (("set", 4, 3), ("set", 5, 5), ("add", 6, 4, 5)), cell(6))
        # A spot is looked at as it is, without modulo.
        self.word((("number", 0),), (("set", 4, 65535), ("set", 5, 1), ("add", 6, 4, 5)), cell(6), False)
        self.word((("number", 0),), (("set", 4, 65535), ("set", 5, 1), ("add", 6, 4, 5), ("and", 6, 6, 4)), cell(6))

    def test_helpers(self):
        get, take = ("get", 1), ("take", 0, 1)
        self.word((get, ("one", "ones", 0)), (take, ("ones", 2, 0, 0)), cell(2))
        self.word((get, ("one", "ones", 0)), (take, ("set", 1, 65535), ("ones", 2, 0, 1)), cell(2), False)
        self.word((get, ("one", "low", 0)), (take, ("set", 1, 255), ("and", 2, 0, 1)), cell(2))
        self.word((get, ("one", "low", 0)), (take, ("set", 1, 255), ("and", 2, 1, 0)), cell(2), False)
        mix = (take, ("set", 1, 40503), ("times", 2, 0, 1), ("set", 1, 1), ("add", 2, 2, 1), ("set", 1, 65535), ("and", 2, 2, 1))
        self.word((get, ("one", "mix", 0)), mix, cell(2))
        self.word((get, ("one", "mix", 0)), mix[:6], cell(2), False)
        self.word((get, ("one", "mix", 0)), mix[:3] + mix[5:], cell(2), False)

    def test_reckoned(self):
        both = (("get", 1), ("get", 2))
        takes_both = (("take", 0, 1), ("take", 1, 2))
        for op in ("and", "or", "xor"):
            self.word(both + (("do", op, 0, 1),), takes_both + ((op, 2, 0, 1),), cell(2))
            self.word(both + (("do", op, 0, 1),), takes_both + ((op, 2, 1, 0),), cell(2), False)
            for other in ("add", "and", "or", "xor", "ones"):
                if other != op:
                    self.word(both + (("do", op, 0, 1),), takes_both + ((other, 2, 0, 1),), cell(2), False)
        full, cut = (("set", 3, 65535),), (("and", 2, 2, 3),)
        for op in ("add", "sub"):
            self.word(both + (("do", op, 0, 1),), takes_both + full + ((op, 2, 0, 1),) + cut, cell(2))
            self.word(both + (("do", op, 0, 1),), takes_both + full + ((op, 2, 0, 1),), cell(2), False)
            self.word(both + (("do", op, 0, 1),), takes_both + (("set", 3, 32767), (op, 2, 0, 1)) + cut, cell(2), False)
        shift = (("set", 4, 15), ("and", 1, 1, 4))
        self.word(both + (("do", "left", 0, 1),), takes_both + full + shift + (("left", 2, 0, 1),) + cut, cell(2))
        self.word(both + (("do", "left", 0, 1),), takes_both + full + (("left", 2, 0, 1),) + cut, cell(2), False)
        self.word(both + (("do", "left", 0, 1),), takes_both + full + shift + (("left", 2, 0, 1),), cell(2), False)
        self.word(both + (("do", "right", 0, 1),), takes_both + shift + (("right", 2, 0, 1),), cell(2))
        self.word(both + (("do", "right", 0, 1),), takes_both + full + shift + (("right", 2, 0, 1),) + cut, cell(2))
        self.word(both + (("do", "right", 0, 1),), takes_both + (("right", 2, 0, 1),), cell(2), False)

    def test_rows_that_make_the_same_marks(self):
        form = (("get", 1), ("number", 0), ("do", "add", 0, 1))
        self.word(form, (), ("box", 1))
        form = (("get", 1), ("number", 65535), ("do", "and", 0, 1))
        self.word(form, (), ("box", 1))
        form = (("get", 1), ("number", 4), ("do", "right", 0, 1))
        self.word(form, (("take", 0, 1), ("set", 1, 4), ("right", 0, 0, 1)), cell(0))
        self.word(form, (("take", 0, 1), ("set", 1, 20), ("right", 0, 0, 1)), cell(0), False)
        self.word((("length",), ("clock",), ("do", "add", 0, 1)),
                  (("take", 0, 28), ("take", 1, 29), ("add", 0, 0, 1), ("set", 1, 65535), ("and", 0, 0, 1)), cell(0))

    def test_slots_and_counters(self):
        effects = (("get", 1), ("number", 7))
        form = form_of_one(effects, {}, slots={4: 0}, counters={2: 1})
        rows, most = (MOST, ("leave", 1)), exit_of(0, "most", 5)
        self.taken(form, rows, (most, exit_of(1, "end", 6, {}, {4: ("box", 1)}, {2: ("number", 7)})))
        self.refused(form, rows, (most, exit_of(1, "end", 6, {}, {4: ("box", 1)}, {2: ("number", 8)})))
        self.refused(form, rows, (most, exit_of(1, "end", 6, {}, {4: ("box", 1)}, {2: ("number", 108)})))
        self.refused(form, rows, (most, exit_of(1, "end", 6, {}, {4: ("box", 1)}, {})))
        self.refused(form, rows, (most, exit_of(1, "end", 6, {}, {5: ("box", 1)}, {2: ("number", 7)})))
        self.refused(form, rows, (most, exit_of(1, "end", 6, {}, {}, {2: ("number", 7)})))
        self.refused(form, rows, (most, exit_of(1, "end", 6, {0: ("box", 1)}, {4: ("box", 1)}, {2: ("number", 7)})))
        self.taken(form, rows, (most, exit_of(1, "end", 6, {0: ("box", 0)}, {4: ("box", 1), 0: ("box", 8)}, {2: ("number", 7), 0: ("box", 24)})))


class TestExits(JudgeCase):
    def test_what_an_exit_tells(self):
        form = form_of_one((("get", 1),), {2: 0})
        most, end = exit_of(0, "most", 5), exit_of(1, "end", 6, {2: ("box", 1)})
        rows = (MOST, ("leave", 1))
        self.taken(form, rows, (most, end))
        for bent in (put(end, 0, 0), put(end, 0, 2), put(end, 1, "most"), put(end, 1, "fault"), put(end, 2, 5), put(end, 2, 7),
                     put(end, 3, ("box", 1)), put(end, 4, NONE), put(end, 4, put(end[4], 0, ("box", 2)))):
            self.refused(form, rows, (most, bent))
        for bent in (put(most, 0, 1), put(most, 1, "end"), put(most, 1, "fault"), put(most, 2, 6), put(most, 3, ("number", 0)),
                     put(most, 4, end[4])):
            self.refused(form, rows, (bent, end))
        # Exits that nobody is left by do not matter.
        self.taken(form, rows, (most, end, put(end, 0, 9)))
        self.refused(form, (MOST, ("leave", 0)), (most, end))

    def test_rows_that_are_not_come_to(self):
        form = form_of_one((), {})
        exits = (exit_of(0, "most", 5), exit_of(1, "end", 6), exit_of(9, "fault", 0))
        self.taken(form, (MOST, ("leave", 1), ("grow", 0, 0, 2), ("most", 3, 2), ("leave", 2)), exits)
        self.refused(form, (MOST, ("leave", 2), ("leave", 1)), exits)
        self.refused(form, (("leave", 1), MOST, ("leave", 1)), exits)


class TestReaching(JudgeCase):
    def exits(self, many, **registers):
        return exit_of(0, "most", 5), exit_of(1, "most", 6), exit_of(2, "end", 7), exit_of(1, "fault", 6), exit_of(0, "fault", 5)

    ROWS = {
        "byte": (("byte", 0, 4), (7, 0, 4)), "pair": (("pair", 0, 4), (7, 0, 4)), "cell": (("cell", 0, 2), (7, 0, 2)),
        "find": (("find", 0, 1), (7, 0, 1)), "value": (("value", 0, 3), (7, 0, 3)), "write": (("write", 0, 4, 1), (0, 4, 1)),
        "fill": (("fill", 0, 2, 1), (0, 2, 1)), "change": (("change", 0, 1, 1), (0, 1, 1)), "grow": (("grow", 0, 0), (0, 0)),
    }
    AHEAD = (("most", 0, 0), ("take", 0, 1), ("take", 1, 2), ("most", 1, 1))

    def form(self, head, sure, row=1):
        effects = (("get", 1), ("get", 2), self.ROWS[head][0] + (row, sure))
        return form_with(effects, many=2, boundaries=(START,) * 3, place=5)

    def test_each(self):
        for head, (effect, fields) in self.ROWS.items():
            rows, exits = self.AHEAD, self.exits(2)
            fine, quick = (head,) + fields + (3,), (head,) + fields + (None,)
            leave = (("leave", 2),)
            self.taken(self.form(head, 0), rows + (fine,) + leave, exits)
            self.taken(self.form(head, 1), rows + (quick,) + leave, exits)
            # A quick row for an effect that is not sure, an exit for one that is.
            self.refused(self.form(head, 0), rows + (quick,) + leave, exits)
            self.refused(self.form(head, 1), rows + (fine,) + leave, exits)
            # Left out, twice, ahead of its row most, behind another one.
            self.refused(self.form(head, 0), rows + leave, exits)
            self.refused(self.form(head, 0), rows + (fine, fine) + leave, exits)
            self.refused(self.form(head, 0), rows[:3] + (fine,) + rows[3:] + leave, exits)
            self.refused(self.form(head, 0, 0), rows + (fine,) + leave, exits)
            self.taken(self.form(head, 0, 0), rows[:3] + (put(fine, len(fine) - 1, 4), rows[3]) + leave, exits)
            # Another exit: with another boundary, another reason.
            for x in (0, 1, 2, 4):
                self.refused(self.form(head, 0), rows + (put(fine, len(fine) - 1, x),) + leave, exits)
            for other in self.ROWS:
                if other != head and len(self.ROWS[other][1]) == len(fields):
                    self.refused(self.form(head, 0), rows + ((other,) + fine[1:],) + leave, exits)
            for at in range(len(fields)):
                if head in ("byte", "pair", "cell", "find", "value") and at == 0:
                    self.taken(self.form(head, 0), rows + (put(fine, 1, 0),) + leave, exits)
                    continue
                for value in (0, 1, 2, 3, 5):
                    bent = put(fine, at + 1, value)
                    if bent != fine:
                        self.refused(self.form(head, 0), rows + (bent,) + leave, exits)

    def test_the_same_mark_elsewhere(self):
        rows = self.AHEAD + (("move", 5, 0), ("set", 0, 9), ("byte", 4, 5, 4, 3), ("leave", 2))
        self.taken(self.form("byte", 0), rows, self.exits(2))
        rows = self.AHEAD + (("set", 0, 9), ("byte", 4, 0, 4, 3), ("leave", 2))
        self.refused(self.form("byte", 0), rows, self.exits(2))
        rows = self.AHEAD + (("move", 5, 1), ("fill", 0, 2, 5, 3), ("leave", 2))
        self.taken(self.form("fill", 0), rows, self.exits(2))

    def test_numbers_as_places(self):
        effects = (("number", 3), ("number", 5), ("cell", 0, 0, 0, 1), ("fill", 1, 0, 2, 1, 1))
        form = form_with(effects, many=2, boundaries=(START, None, told({4: 2})), place=5)
        exits = exit_of(0, "most", 5), exit_of(2, "end", 7, {4: cell(2)})
        rows = (("most", 1, 0), ("set", 0, 3), ("set", 1, 5), ("cell", 2, 0, 0, None), ("fill", 1, 0, 2, None), ("leave", 1))
        self.taken(form, rows, exits)
        self.refused(form, rows[:1] + (("set", 0, 4),) + rows[2:], exits)
        self.refused(form, rows[:3] + (("fill", 1, 0, 2, None), ("cell", 2, 0, 0, None)) + rows[5:], exits)
        self.refused(form, rows[:4] + (("fill", 1, 0, 0, None),) + rows[5:], exits)
        self.refused(form, rows, (exits[0], exit_of(2, "end", 7, {4: cell(1)})))

    def test_two_readings_are_told_apart(self):
        effects = (("get", 0), ("byte", 0, 0, 0, 1), ("byte", 0, 1, 1, 1))
        form = form_with(effects, many=2, boundaries=(START, None, told({4: 1, 5: 2})), place=5)
        rows = (("most", 1, 0), ("take", 0, 0), ("byte", 1, 0, 0, None), ("byte", 2, 0, 1, None), ("leave", 1))
        most = exit_of(0, "most", 5)
        self.taken(form, rows, (most, exit_of(2, "end", 7, {4: cell(1), 5: cell(2)})))
        self.refused(form, rows, (most, exit_of(2, "end", 7, {4: cell(2), 5: cell(1)})))
        self.refused(form, rows, (most, exit_of(2, "end", 7, {4: cell(1), 5: cell(1)})))


class TestMost(JudgeCase):
    FORM = form_with((("get", 1), ("grow", 0, 0, 3, 1)), many=6, boundaries=(START, None, told({2: 0}), None, START, None, START), place=5)
    EXITS = (exit_of(0, "most", 5), exit_of(2, "most", 7, {2: ("box", 1)}), exit_of(4, "most", 9), exit_of(6, "end", 11))
    ROWS = (("most", 1, 0), ("most", 3, 1), ("take", 0, 1), ("grow", 0, 0, None), ("most", 5, 2), ("leave", 3))

    def test_each_one_that_is_due(self):
        self.taken(self.FORM, self.ROWS, self.EXITS)
        for at in (0, 1, 4):
            self.refused(self.FORM, self.ROWS[:at] + self.ROWS[at + 1:], self.EXITS)
            self.refused(self.FORM, self.ROWS[:at + 1] + self.ROWS[at:], self.EXITS)
            for n in range(12):
                if n != self.ROWS[at][1]:
                    self.refused(self.FORM, put(self.ROWS, at, put(self.ROWS[at], 1, n)), self.EXITS)
            for x in range(4):
                if x != self.ROWS[at][2]:
                    self.refused(self.FORM, put(self.ROWS, at, put(self.ROWS[at], 2, x)), self.EXITS)
        swapped = self.ROWS[1:2] + self.ROWS[:1] + self.ROWS[2:]
        self.refused(self.FORM, swapped, self.EXITS)

    def test_behind_and_ahead_of_what_reaches(self):
        rows = self.ROWS[:1] + self.ROWS[2:4] + self.ROWS[1:2] + self.ROWS[4:]
        self.refused(self.FORM, rows, self.EXITS)
        rows = self.ROWS[:3] + self.ROWS[4:5] + self.ROWS[3:4] + self.ROWS[5:]
        self.refused(self.FORM, rows, self.EXITS)
        rows = self.ROWS[2:3] + self.ROWS[:2] + self.ROWS[3:]
        self.taken(self.FORM, rows, self.EXITS)

    def test_none_behind_the_last(self):
        self.refused(self.FORM, self.ROWS[:5] + (("most", 6, 3), ("leave", 3)), self.EXITS)
        self.refused(self.FORM, self.ROWS[:5] + (("most", 5, 2), ("leave", 3)), self.EXITS)


class TestEnds(JudgeCase):
    def test_jump_and_answer(self):
        rows, most = (MOST, ("leave", 1)), exit_of(0, "most", 5)
        form = form_of_one((("get", 1),), {}, ("jump", 77))
        self.taken(form, rows, (most, exit_of(1, "end", 77)))
        self.refused(form, rows, (most, exit_of(1, "end", 6)))
        form = form_of_one((("get", 1),), {}, ("answer", 0))
        self.taken(form, rows, (most, exit_of(1, "end", 5, answer=("box", 1))))
        self.refused(form, rows, (most, exit_of(1, "end", 6, answer=("box", 1))))
        self.refused(form, rows, (most, exit_of(1, "end", 5, answer=("box", 2))))
        self.refused(form, rows, (most, exit_of(1, "end", 5)))
        form = form_of_one((("number", 9),), {}, ("answer", 0))
        self.taken(form, rows, (most, exit_of(1, "end", 5, answer=("number", 9))))
        self.refused(form, rows, (most, exit_of(1, "end", 5, answer=("number", 8))))
        self.refused(form_of_one((), {}), rows, (most, exit_of(1, "end", 6, answer=("number", 9))))

    def test_when(self):
        most, on, away = exit_of(0, "most", 5), exit_of(1, "end", 6), exit_of(1, "end", 77)
        exits = (most, on, away)
        for relation, op, holding in (("same", "same", True), ("other", "same", False), ("below", "below", True),
                                      ("from", "below", False), ("bit", "and", True), ("nobit", "and", False)):
            form = form_of_one((("get", 1), ("get", 2)), {}, ("when", relation, 0, 1, 77))
            nonzero, zero = (2, 1) if holding else (1, 2)
            rows = (MOST, ("take", 0, 1), ("take", 1, 2), (op, 2, 0, 1), ("skip", 2, 1), ("leave", zero), ("leave", nonzero))
            self.taken(form, rows, exits)
            self.refused(form, rows[:5] + (("leave", nonzero), ("leave", zero)), exits)
            self.refused(form, rows[:5] + (("leave", zero), ("leave", zero)), exits)
            self.refused(form, rows[:4] + (("leave", zero),), exits)
            self.refused(form, rows[:4] + (("leave", nonzero),), exits)
            self.refused(form, rows[:3] + ((op, 2, 1, 0),) + rows[4:], exits)
            for other in ("same", "below", "and", "xor", "sub", "or"):
                if other != op:
                    self.refused(form, rows[:3] + ((other, 2, 0, 1),) + rows[4:], exits)
            # The same way both times: where it is known already, a skip leads on as it was taken.
            again = rows[:5] + (("skip", 2, 1), ("leave", zero), ("leave", nonzero))
            self.refused(form, again, exits)
            again = rows[:5] + (("set", 5, 5),) + rows[4:]
            self.taken(form, again, exits)

    def test_when_of_numbers(self):
        most, on, away = exit_of(0, "most", 5), exit_of(1, "end", 6), exit_of(1, "end", 77)
        for relation, one, two, holds in (("same", 5, 5, True), ("other", 5, 5, False), ("below", 4, 5, True), ("from", 4, 5, False),
                                          ("bit", 6, 8, False), ("nobit", 6, 8, True), ("from", 5, 5, True)):
            form = form_of_one((("number", one), ("number", two)), {}, ("when", relation, 0, 1, 77))
            self.taken(form, (MOST, ("leave", 2 if holds else 1)), (most, on, away))
            self.refused(form, (MOST, ("leave", 1 if holds else 2)), (most, on, away))

    def test_known_skips_go_one_way(self):
        form = form_of_one((), {})
        exits = (exit_of(0, "most", 5), exit_of(1, "end", 6), exit_of(1, "end", 7))
        self.taken(form, (MOST, ("set", 0, 0), ("skip", 0, 1), ("leave", 1), ("leave", 2)), exits)
        self.taken(form, (MOST, ("set", 0, 7), ("skip", 0, 1), ("leave", 2), ("leave", 1)), exits)
        self.refused(form, (MOST, ("set", 0, 7), ("skip", 0, 1), ("leave", 1), ("leave", 2)), exits)
        self.refused(form, (MOST, ("take", 0, 1), ("skip", 0, 1), ("leave", 1), ("leave", 2)), exits)
        self.taken(form, (MOST, ("take", 0, 1), ("skip", 0, 1), ("leave", 1), ("leave", 1)), exits)
        # What a cell holds that was not set is a mark, too.
        self.taken(form, (MOST, ("skip", 9, 1), ("skip", 9, 1), ("leave", 1), ("leave", 1)), exits)
        self.taken(form, (MOST, ("skip", 9, 1), ("skip", 9, 1), ("leave", 1), ("skip", 9, 1), ("leave", 2), ("leave", 1)), exits)
        self.taken(form, (MOST, ("skip", 9, 2), ("skip", 9, 2), ("leave", 1), ("skip", 9, 1), ("leave", 2), ("leave", 1)), exits)
        self.refused(form, (MOST, ("skip", 9, 2), ("skip", 8, 2), ("leave", 1), ("skip", 9, 1), ("leave", 1), ("leave", 2)), exits)

    def test_again(self):
        most = exit_of(0, "most", 5)
        form = form_of_one((), {}, ("again", 2, 9, 77))
        rows = (MOST, ("take", 0, 26), ("set", 1, 9), ("below", 2, 0, 1), ("set", 1, 1), ("add", 3, 0, 1), ("skip", 2, 1),
                ("leave", 1), ("leave", 2))
        exits = (most, exit_of(1, "end", 6), exit_of(1, "end", 77, {}, {}, {2: cell(3)}))
        self.taken(form, rows, exits)
        self.refused(form, rows, (most, exits[1], exit_of(1, "end", 77)))
        self.refused(form, rows, (most, exits[1], exit_of(1, "end", 77, {}, {}, {1: cell(3)})))
        self.refused(form, rows, (most, exit_of(1, "end", 6, {}, {}, {2: cell(3)}), exits[2]))
        self.refused(form, rows[:2] + (("set", 1, 8),) + rows[3:], exits)
        self.refused(form, rows[:4] + (("set", 1, 2),) + rows[5:], exits)
        self.refused(form, rows[:5] + (("add", 3, 1, 0),) + rows[6:], exits)
        self.refused(form, rows[:7] + (("leave", 2), ("leave", 1)), exits)
        self.refused(form, rows[:1] + (("take", 0, 25),) + rows[2:], exits)

    def test_again_of_a_number(self):
        most = exit_of(0, "most", 5)
        for number, holds in ((8, True), (9, False), (100, False)):
            form = form_of_one((("number", number),), {}, ("again", 2, 9, 77), counters={2: 0})
            behind = exit_of(1, "end", 6, {}, {}, {2: ("number", number)})
            away = exit_of(1, "end", 77, {}, {}, {2: ("number", number + 1)})
            self.taken(form, (MOST, ("leave", 2 if holds else 1)), (most, behind, away))
            self.refused(form, (MOST, ("leave", 1 if holds else 2)), (most, behind, away))
            self.refused(form, (MOST, ("leave", 1)), (most, exit_of(1, "end", 77, {}, {}, {2: ("number", number)})))

    def test_four_skips(self):
        form = form_of_one((), {})
        exits = (exit_of(0, "most", 5), exit_of(1, "end", 6), exit_of(1, "end", 7))
        rows = (MOST,) + tuple(row for c in range(4) for row in (("skip", c, 1), ("set", 9, c))) + (("leave", 1),)
        self.taken(form, rows, exits)
        # One of sixteen ways alone goes wrong.
        rows = (MOST, ("set", 10, 0), ("skip", 0, 4), ("skip", 1, 3), ("skip", 2, 2), ("set", 10, 1), ("set", 11, 1), ("skip", 10, 1),
                ("leave", 1), ("leave", 2))
        self.refused(form, rows, exits)
        self.taken(form, rows[:9] + (("leave", 1),), exits)


class TestDrawn(JudgeCase):
    def drawn_form(self, chance):
        place = chance.randrange(6)
        rows = likely_block(chance) if chance.random() < 0.6 else drawn_block(chance, 8)
        form = form_of((("jump", 0),) * place + rows, place, 12)
        kept = tuple(sorted(chance.sample(range(13), chance.randint(0, 13))))
        sure = tuple(sorted(chance.sample(range(18), chance.randint(0, 18))))
        return better(form, kept, sure)[0] if chance.random() < 0.7 else form

    def test_plain_translations_are_taken_and_right(self):
        chance = random.Random(46)
        for seed in range(130):
            form = self.drawn_form(chance)
            translation = plainly(form)
            self.assertIs(self.both(form, translation), True, form)
            self.goes_right(form, translation, 2, seed)

    def bent_row(self, chance, row, exits):
        """A row with one field changed."""
        head, at = row[0], chance.randrange(len(row))
        if at == 0:
            return (chance.choice(("add", "sub", "and", "or", "xor", "left", "right", "same", "below", "ones", "times")),) + row[1:]
        if isinstance(row[at], int) and chance.random() < 0.7:
            return put(row, at, max(0, row[at] + chance.choice((-1, 1))))
        if head in ("byte", "pair", "cell", "find", "value", "write", "fill", "change", "grow") and at == len(row) - 1:
            return put(row, at, chance.choice((None, chance.randrange(exits))))
        return put(row, at, chance.randrange(12))

    def bent(self, chance, translation):
        """A translation with one thing bent."""
        rows, exits = translation
        at, pick = chance.randrange(len(rows)), chance.randrange(8)
        if pick < 3:
            return put(rows, at, self.bent_row(chance, rows[at], len(exits))), exits
        if pick == 3:
            return rows[:at] + rows[at + 1:], exits
        if pick == 4:
            return rows[:at + 1] + rows[at:], exits
        if pick == 5 and len(rows) > 1:
            at = min(at, len(rows) - 2)
            return rows[:at] + (rows[at + 1], rows[at]) + rows[at + 2:], exits
        x = chance.randrange(len(exits))
        part = chance.randrange(7)
        spot = chance.choice((None, ("cell", chance.randrange(12)), ("box", chance.randrange(60)), ("number", chance.randrange(9))))
        if part < 3:
            told_part = chance.choice((chance.randrange(13), "end", "most", "fault"))
        elif part == 3:
            told_part = spot
        else:
            told_part = put(exits[x][part], chance.randrange(len(exits[x][part])), spot)
        return rows, put(exits, x, put(exits[x], part, told_part))

    def test_bent_translations(self):
        chance = random.Random(47)
        seen = {True: 0, False: 0}
        while min(seen.values()) < 150:
            form = self.drawn_form(chance)
            translation = plainly(form)
            for _ in range(30):
                bent = self.bent(chance, translation)
                if not is_translation(bent) or bent == translation:
                    continue
                is_taken = self.both(form, bent)
                seen[is_taken] += 1
                if is_taken:
                    self.goes_right(form, bent, 1, seen[True])

    def test_forms_of_others(self):
        """A translation of one form beside another one that is alike."""
        chance = random.Random(48)
        refused = 0
        for _ in range(60):
            form = self.drawn_form(chance)
            translation = plainly(form)
            others = [put(form, 0, form[0] + 1), put(form, 4, ("on",)), put(form, 4, ("jump", 99)), put(form, 4, ("again", 0, 9, 99))]
            for at, effect in enumerate(form[2]):
                others += [put(form, 2, put(form[2], at, bent)) for bent in self.others(effect)]
            for other in others:
                if other != form and is_form(other):
                    is_taken = self.both(other, translation)
                    refused += not is_taken
                    if is_taken:
                        self.goes_right(other, translation, 1)
        self.assertGreater(refused, 300)

    def others(self, effect):
        for at in range(1, len(effect)):
            if isinstance(effect[at], int):
                yield put(effect, at, effect[at] + 1)
                yield put(effect, at, effect[at] - 1)


class TestWhole(JudgeCase):
    def test_each_end_and_effect_at_once(self):
        sieve = (("set", 1, 12), ("byte", 2, 1, 0), ("addn", 2, 1), ("keep", 2, 0), ("whenn", "same", 2, 7, 6), ("answer", 2), ("answer", 1))
        form, end = form_of(sieve, 0, 12), form_of(sieve, 5, 12)
        self.assertIs(self.both(form, plainly(form)), True)
        self.assertIs(self.both(end, plainly(form)), False)
        self.assertIs(self.both(form, plainly(end)), False)
        self.assertEqual((SLOTS, TURNS), START[1:])
