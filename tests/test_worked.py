"""Points 33 and 34: forms worked in runs, beside plain steps."""

import random
import unittest

from suresieves.errors import NotThere
from suresieves.forms import at_boundary, form_of, is_form, worked
from suresieves.runs import fault_of, one_step, run_on
from tests import drawn
from tests.test_forms import SLOTS, START, TURNS, form_with, told
from tests.values import put, registers, run_with

TABLES = (("array", 1, (5, 65535, 0)), ("pairs", 1, ((2, 20), (7, 70))), ("array", 0, (1,)), ("pairs", 0, ()))


def drawn_block(chance, hold=3):
    """Rows of a block, the last of which may be of any kind."""
    rows = tuple(drawn.straight_row(chance, hold) for _ in range(chance.randint(0, 7)))
    a, b = chance.randrange(hold), chance.randrange(hold)
    return rows + (chance.choice((
        ("jump", chance.randrange(120)), ("when", chance.choice(drawn.RELATIONS), a, b, chance.randrange(120)),
        ("whenn", chance.choice(drawn.RELATIONS), a, drawn.small(chance), chance.randrange(120)),
        ("again", chance.randrange(4), chance.randint(1, 100), chance.randrange(120)), ("answer", a), ("begin", 1),
        ("set", a, 5), ("count", 0, b),
    )),)


class TestBesideSteps(unittest.TestCase):
    def check(self, sieve, run, form):
        """Each boundary, and each MOST, beside as many plain steps."""
        many = form[1]
        steps = [run]
        for _ in range(many):
            steps.append(one_step(sieve, steps[-1]))
        # The first row that faults; many if none does.
        faults = [number for number in range(many) if steps[number][8] is None and fault_of(sieve, steps[number])]
        stop = faults[0] if faults else many
        for number in range(many + 1):
            expected = steps[number] if number <= stop else None
            self.assertEqual(at_boundary(run, form, number), expected)
        for most in range(13):
            how = ("most", most) if most <= stop and most < many else ("fault", stop) if faults else ("done", many)
            self.assertEqual(worked(run, form, most), (how, steps[how[1]]))
        return "fault" if faults else "done"

    def test_drawn(self):
        chance = random.Random(34)
        seen = {"fault": 0, "done": 0}
        for _ in range(350):
            place = chance.randrange(12)
            rows = drawn_block(chance)
            sieve = (("jump", 0),) * place + rows
            form = form_of(sieve, place, 12)
            for _ in range(3):
                run = drawn.midway(chance, drawn.GRANT, place)
                run = put(run, 9, chance.choice((0, 1, 1)))
                seen[self.check(sieve, run, form)] += 1
        self.assertGreater(min(seen.values()), 200)

    def test_shorter_blocks(self):
        chance = random.Random(35)
        for _ in range(60):
            sieve = drawn_block(chance)
            for limit in range(1, 12):
                form = form_of(sieve, 0, limit)
                self.check(sieve, drawn.midway(chance), form)

    def test_boundaries_that_are_not_told(self):
        sieve = (("set", 0, 1), ("set", 1, 2), ("set", 2, 3), ("set", 3, 4), ("answer", 0))
        form = form_of(sieve, 0, 12)
        run = run_with()
        few = put(form, 3, (form[3][0], None, form[3][2], None, None, form[3][5]))
        self.assertTrue(is_form(few))
        for most, stop in ((0, 0), (1, 0), (2, 2), (3, 2), (4, 2), (5, 5), (12, 5)):
            how = ("done", 5) if stop == 5 else ("most", stop)
            self.assertEqual(worked(run, few, most), (how, run_on(sieve, run, stop)))
        for number in range(6):
            expected = run_on(sieve, run, number) if number in (0, 2, 5) else None
            self.assertEqual(at_boundary(run, few, number), expected)

    def test_most_ahead_of_a_fault(self):
        sieve = (("set", 0, 0), ("byte", 1, 0, 200), ("set", 2, 1), ("byte", 1, 0, 200))
        form, run = form_of(sieve, 0, 12), run_with()
        self.assertEqual([worked(run, form, most)[0] for most in range(6)], [("most", 0), ("most", 1)] + [("fault", 1)] * 4)
        few = put(form, 3, (form[3][0], form[3][1], None, form[3][3], form[3][4]))
        self.assertEqual([worked(run, few, most)[0] for most in range(5)], [("most", 0), ("most", 1), ("most", 1)] + [("fault", 1)] * 2)
        fine = put(few, 2, put(few[2], 1, few[2][1][:-1] + (1,)))
        self.assertEqual([worked(run, fine, most)[0] for most in range(5)],
                         [("most", 0), ("most", 1), ("most", 1), ("most", 3), ("fault", 3)])

    def test_nothing_of_later_rows_is_done(self):
        rows = (("set", 0, 1), ("count", 0, 0), ("count", 0, 0))
        form, run = form_of(rows, 0, 12), run_with(tables=TABLES)
        self.assertEqual([worked(run, form, most)[1][5][0][2][1] for most in range(4)], [65535, 65535, 0, 1])
        self.assertEqual([at_boundary(run, form, number)[5][0][2][1] for number in range(4)], [65535, 65535, 0, 1])


class TestFaults(unittest.TestCase):
    RUN = dict(packet=(9, 8, 7), tables=TABLES, writable=1)

    def reach(self, effect, values, sure, **parts):
        """How a form of one effect that reaches is left, values being registers 0 and 1."""
        effects = (("get", 0), ("get", 1), effect + (1, sure))
        told_last = told({5: 2}) if effect[0] in ("byte", "pair", "cell", "find", "value") else START
        form = form_with(effects, many=2, boundaries=(START, START, told_last))
        self.assertTrue(is_form(form))
        run = run_with(**{**self.RUN, **parts, "registers": registers(*values)})
        how, behind = worked(run, form, 12)
        self.assertEqual(how, ("done", 2) if how[0] == "done" else ("fault", 1))
        if how[0] == "fault":
            self.assertEqual(behind, put(put(run, 3, 1), 7, run[7] + 1))
            self.assertIsNone(at_boundary(run, form, 2))
        else:
            self.assertEqual(behind, at_boundary(run, form, 2))
        self.assertEqual(at_boundary(run, form, 1), put(put(run, 3, 1), 7, run[7] + 1))
        return how[0], behind

    def faults(self, effect, values, **parts):
        self.assertEqual(self.reach(effect, values, 0, **parts)[0], "fault")
        how, behind = self.reach(effect, values, 1, **parts)
        self.assertEqual(how, "done")
        run = run_with(**{**self.RUN, **parts, "registers": registers(*values)})
        self.assertEqual(behind, put(put(run, 3, 2), 7, run[7] + 2))

    def tells(self, effect, values, word, **parts):
        for sure in (0, 1):
            how, behind = self.reach(effect, values, sure, **parts)
            self.assertEqual((how, behind[0][5]), ("done", word))

    def changes(self, effect, values, **parts):
        for sure in (0, 1):
            how, behind = self.reach(effect, values, sure)
            run = run_with(**{**self.RUN, **parts, "registers": registers(*values)})
            self.assertEqual((how, behind), ("done", put(put(run, 3, 2), 7, run[7] + 2)))

    def test_packet(self):
        self.tells(("byte", 0, 2), (0,), 7)
        self.tells(("byte", 0, 0), (2,), 7)
        self.tells(("pair", 0, 1), (0,), 8 * 256 + 7)
        for values, s in (((3,), 0), ((0,), 3), ((65535,), 1), ((65535,), 0)):
            self.faults(("byte", 0, s), values)
            self.faults(("pair", 0, s), values)
            self.faults(("write", 0, s, 1), values)
        self.faults(("pair", 0, 2), (0,))
        self.faults(("byte", 0, 0), (0,), packet=())
        self.changes(("write", 0, 1, 1), (1, 300), packet=(9, 8, 44))
        self.changes(("write", 0, 0, 0), (2,), packet=(9, 8, 2))
        self.faults(("write", 0, 1, 1), (1, 300), writable=0)

    def test_arrays(self):
        self.tells(("cell", 0, 0), (1,), 65535)
        self.tells(("cell", 0, 2), (0,), 1)
        for head in ("cell", "fill", "grow"):
            effect = (lambda t: (head, 0, t, 1)) if head == "fill" else (lambda t: (head, 0, t))
            self.faults(effect(0), (3,))
            self.faults(effect(0), (65535,))
            self.faults(effect(1), (0,))
            self.faults(effect(3), (0,))
            self.faults(effect(4), (0,))
            self.faults(effect(0), (0,), tables=())
        self.faults(("fill", 0, 2, 1), (0,))
        self.faults(("grow", 0, 2), (0,))
        self.changes(("fill", 0, 0, 1), (2, 65534), tables=(("array", 1, (5, 65535, 65534)),) + TABLES[1:])
        self.changes(("grow", 0, 0), (0,), tables=(("array", 1, (6, 65535, 0)),) + TABLES[1:])
        self.changes(("grow", 0, 0), (1,), tables=(("array", 1, (5, 0, 0)),) + TABLES[1:])

    def test_pairs(self):
        for key, word in ((2, 1), (7, 2), (3, 0), (20, 0)):
            self.tells(("find", 0, 1), (key,), word)
        self.tells(("find", 0, 3), (2,), 0)
        for t in (0, 2, 4, 5):
            self.faults(("find", 0, t), (2,))
        self.tells(("value", 0, 1), (1,), 20)
        self.tells(("value", 0, 1), (2,), 70)
        for head in ("value", "change"):
            effect = (lambda t: (head, 0, t, 1)) if head == "change" else (lambda t: (head, 0, t))
            for values in ((0,), (3,), (65535,)):
                self.faults(effect(1), values)
            for t in (0, 2, 3, 4):
                self.faults(effect(t), (1,))
        self.changes(("change", 0, 1, 1), (2, 9), tables=TABLES[:1] + (("pairs", 1, ((2, 20), (7, 9))),) + TABLES[2:])
        still = TABLES[:1] + (("pairs", 0, ((2, 20), (7, 70))),)
        self.faults(("change", 0, 1, 1), (2, 9), tables=still)
        self.tells(("value", 0, 1), (2,), 70, tables=still)


class TestPlainEffects(unittest.TestCase):
    def test_words(self):
        run = run_with(registers=(1, 513, 65535, 4, 5, 6, 7, 8), slots=tuple(range(40, 56)), packet=(1,) * 9, clock=77)
        effects, words = [], []

        def put_effect(effect, word):
            effects.append(effect)
            words.append(word)

        put_effect(("get", 1), 513)
        put_effect(("get", 7), 8)
        put_effect(("slot", 15), 55)
        put_effect(("number", 65535), 65535)
        put_effect(("length",), 9)
        put_effect(("clock",), 77)
        put_effect(("one", "ones", 0), 2)
        put_effect(("one", "ones", 3), 16)
        put_effect(("one", "mix", 4), (9 * 40503 + 1) % 65536)
        put_effect(("one", "low", 0), 1)
        for op, word in (("add", 512), ("sub", 514), ("and", 513), ("or", 65535), ("xor", 65022), ("left", 32768), ("right", 0)):
            put_effect(("do", op, 0, 3), word)
        for at, word in enumerate(words):
            form = form_with(effects, boundaries=(START, told({3: at}, {2: at})))
            behind = worked(run, form, 1)[1]
            self.assertEqual((behind[0][3], behind[1][2]), (word, word), effects[at])
            self.assertEqual(put(put(put(put(behind, 0, run[0]), 1, run[1]), 3, 0), 7, run[7]), run)

    def test_counters(self):
        run = run_with(counters=(1, 2, 3, 100))
        form = form_with((("number", 100), ("number", 0)), boundaries=(START, told({}, {}, {0: 0, 2: 1})))
        self.assertEqual(worked(run, form, 1)[1][2], (100, 2, 0, 100))


class TestEnds(unittest.TestCase):
    def check(self, goes, place, run, **parts):
        effects = (("get", 0), ("get", 1), ("number", 60))
        form = form_with(effects, goes, 3, (START, None, None, told({}, {}, {1: 2})), 5)
        self.assertTrue(is_form(form))
        expected = put(put(put(run, 3, place), 7, run[7] + 3), 2, parts.get("counters", put(run[2], 1, 60)))
        expected = put(expected, 8, parts.get("end"))
        for most in (3, 4, 12):
            self.assertEqual(worked(run, form, most), (("done", 3), expected))
        self.assertEqual(at_boundary(run, form, 3), expected)
        self.assertEqual(worked(run, form, 2), (("most", 0), run))

    def test_each(self):
        run = run_with(place=5, registers=registers(6, 9), counters=(7, 8, 9, 100))
        self.check(("on",), 8, run)
        self.check(("jump", 0), 0, run)
        self.check(("jump", 119), 119, run)
        self.check(("answer", 1), 7, run, end=("answer", 9))
        self.check(("answer", 2), 7, run, end=("answer", 60))
        for relation, holds in (("same", False), ("other", True), ("below", True), ("from", False), ("bit", False), ("nobit", True)):
            self.check(("when", relation, 0, 1, 90), 90 if holds else 8, run)
        for relation, holds in (("same", True), ("other", False), ("below", False), ("from", True), ("bit", True), ("nobit", False)):
            self.check(("when", relation, 0, 0, 90), 90 if holds else 8, run)
        # The counter is as the last boundary tells it.
        self.check(("again", 1, 61, 90), 90, run, counters=(7, 61, 9, 100))
        self.check(("again", 1, 60, 90), 8, run)
        self.check(("again", 0, 8, 90), 90, run, counters=(8, 60, 9, 100))
        self.check(("again", 0, 7, 90), 8, run)
        self.check(("again", 3, 100, 90), 8, run)

    def test_the_last_place(self):
        form = form_with((), many=12, place=108)
        run = run_with(place=108)
        self.assertEqual(worked(run, form, 12)[1][3], 120)

    def test_not_there(self):
        form = form_with((("get", 0),), place=5)
        for run in (run_with(place=4), run_with(place=6), run_with(place=5, end=("answer", 0)), run_with(place=5, end=("fault", "place"))):
            for call in (lambda: worked(run, form, 3), lambda: at_boundary(run, form, 0)):
                with self.assertRaises(NotThere) as caught:
                    call()
                self.assertEqual(vars(caught.exception), {})
        self.assertEqual(worked(run_with(place=5), form, 0), (("most", 0), run_with(place=5)))


class TestStart(unittest.TestCase):
    def test_boundary_nought_may_tell_values(self):
        form = form_with((("number", 7), ("number", 3)), boundaries=(told({2: 0}, {3: 1}, {1: 1}), START))
        run = run_with(slots=(9,) * 16)
        told_run = worked(run, form, 0)[1]
        self.assertEqual((told_run[0][2], told_run[1][3], told_run[2], told_run[3], told_run[7]), (7, 3, (0, 3, 0, 0), 0, 0))
        self.assertEqual(worked(run, form, 1)[1], put(put(run, 3, 1), 7, 1))
        self.assertEqual((len(SLOTS), len(TURNS)), (16, 4))
