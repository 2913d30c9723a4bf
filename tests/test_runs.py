"""Points 9, 10 and 11: runs, how they begin and fit, and how they go on."""

import unittest

from suresieves.runs import answer_of, begun, does_hold, fault_of, fits, is_run, one_step, reckoned, run_on
from tests.values import GRANT, PACKET, RUN, STRANGE, TABLES, put, registers, run_with

RING = (("addn", 0, 1), ("jump", 0))
LOOP = (("begin", 1), ("addn", 0, 1), ("again", 1, 100, 1), ("answer", 0))


class TestForms(unittest.TestCase):
    def test_right(self):
        for parts in (
            {}, {"registers": (65535,) * 8}, {"slots": (65535,) * 16}, {"counters": (100,) * 4}, {"place": 120},
            {"packet": ()}, {"packet": (255,) * 256}, {"tables": ()}, {"clock": 65535}, {"steps": 10 ** 40},
            {"writable": 0}, {"end": ("answer", 0)}, {"end": ("answer", 65535)}, {"end": None},
        ):
            with self.subTest(parts=parts):
                self.assertIs(is_run(run_with(**parts)), True)
        for kind in ("place", "table", "index", "handle", "packet", "grant"):
            self.assertIs(is_run(run_with(end=("fault", kind))), True)

    def test_wrong(self):
        for parts in (
            {"registers": (0,) * 7}, {"registers": (0,) * 9}, {"registers": [0] * 8}, {"registers": (65536,) * 8},
            {"slots": (0,) * 15}, {"slots": (0,) * 17}, {"slots": [0] * 16}, {"slots": (-1,) * 16},
            {"counters": (0,) * 3}, {"counters": (0,) * 5}, {"counters": (101, 0, 0, 0)}, {"counters": (-1, 0, 0, 0)},
            {"place": 121}, {"place": -1}, {"packet": (0,) * 257}, {"tables": TABLES * 2}, {"clock": 65536},
            {"clock": -1}, {"steps": -1}, {"writable": 2}, {"writable": -1}, {"end": ("answer", 65536)},
            {"end": ("answer", -1)}, {"end": ("answer",)}, {"end": ("answer", 1, 1)}, {"end": ["answer", 1]},
            {"end": ("answer", True)}, {"end": ("fault", "jump")}, {"end": ("fault", "")}, {"end": ("fault", None)},
            {"end": ("fault", ["place"])}, {"end": ("faults", "place")}, {"end": ("end", 0)}, {"end": ("place",)}, {"end": "answer"}, {"end": 0}, {"end": ()},
        ):
            with self.subTest(parts=parts):
                self.assertIs(is_run(run_with(**parts)), False)

    def test_strange_at_each_place(self):
        for index in range(10):
            for value in STRANGE + ((), (1,)):
                if (index, value) in ((8, None), (4, ()), (5, ()), (4, (1,))):
                    continue
                with self.subTest(index=index, value=value):
                    self.assertIs(is_run(put(RUN, index, value)), False)
        for index, many in ((0, 8), (1, 16), (2, 4)):
            for at in range(many):
                for value in STRANGE:
                    self.assertIs(is_run(put(RUN, index, put(RUN[index], at, value))), False)

    def test_how_many(self):
        for value in (RUN[:9], RUN + (0,), RUN[1:], (), list(RUN)):
            self.assertIs(is_run(value), False)


class TestBegun(unittest.TestCase):
    def test_begun(self):
        told = begun(PACKET, TABLES, 65535, 0)
        self.assertEqual(told, ((0,) * 8, (0,) * 16, (0,) * 4, 0, PACKET, TABLES, 65535, 0, None, 0))
        self.assertIs(is_run(told), True)

    def test_fits(self):
        self.assertIs(fits(GRANT, RUN), True)
        for parts in (
            {"registers": registers(0, 1)}, {"slots": (0,) * 15 + (1,)}, {"counters": (0, 0, 0, 1)}, {"place": 1},
            {"steps": 1}, {"end": ("answer", 0)}, {"writable": 0}, {"packet": (0,) * 65}, {"tables": TABLES[:3]},
            {"tables": TABLES + TABLES[:1]}, {"tables": TABLES[1:] + TABLES[:1]}, {"tables": ()},
            {"end": ("fault", "place")},
        ):
            with self.subTest(parts=parts):
                self.assertIs(fits(GRANT, run_with(**parts)), False)
        for parts in ({"clock": 1}, {"packet": ()}, {"packet": (0,) * 64}):
            self.assertIs(fits(GRANT, run_with(**parts)), True)

    def test_lengths(self):
        for many, least, most, told in ((3, 3, 3, True), (2, 3, 5, False), (6, 3, 5, False), (5, 3, 5, True)):
            self.assertIs(fits((least, most, 0, ()), begun((0,) * many, (), 0, 0)), told)

    def test_kinds(self):
        for table, kind, told in (
            (("array", 0, (1, 2)), ("array", 0, 2), True), (("array", 0, (1, 2)), ("array", 0, 3), False),
            (("array", 0, (1, 2)), ("array", 0, 1), False), (("array", 0, (1, 2)), ("array", 1, 2), False),
            (("array", 1, (1, 2)), ("array", 0, 2), False), (("array", 0, (1, 2)), ("pairs", 0, 2), False),
            (("pairs", 0, ((1, 2),)), ("pairs", 0, 1), True), (("pairs", 0, ((1, 2),)), ("pairs", 0, 16), True),
            (("pairs", 0, ((1, 2),)), ("pairs", 0, 0), False), (("pairs", 1, ()), ("pairs", 1, 0), True),
            (("pairs", 1, ()), ("pairs", 0, 0), False), (("pairs", 0, ((1, 2),)), ("array", 0, 1), False),
        ):
            with self.subTest(table=table, kind=kind):
                self.assertIs(fits((0, 9, 0, (kind,)), begun((), (table,), 0, 0)), told)


class TestGoingOn(unittest.TestCase):
    def test_steps_are_added_up(self):
        for sieve in (RING, LOOP, RING[:1]):
            run = begun((), (), 0, 0)
            for many in (0, 1, 2, 7, 300):
                for more in (0, 1, 5, 201):
                    there = run_on(sieve, run_on(sieve, run, many), more)
                    self.assertEqual(there, run_on(sieve, run, many + more))
            one = run
            for many in range(12):
                self.assertEqual(one, run_on(sieve, run, many))
                one = one_step(sieve, one)

    def test_ended_stays(self):
        for end in (("answer", 3), ("fault", "table")):
            run = run_with(end=end, place=120, steps=5)
            self.assertEqual(one_step(RING, run), run)
            self.assertEqual(run_on(RING, run, 20000), run)
            self.assertEqual(answer_of(RING, run), end)
            self.assertIsNone(fault_of(RING, run))

    def test_no_steps(self):
        self.assertEqual(run_on(RING, RUN, 0), RUN)

    def test_ring(self):
        run = begun((), (), 0, 0)
        self.assertIsNone(answer_of(RING, run))
        far = run_on(RING, run, 20000)
        self.assertEqual((far[0][0], far[3], far[7], far[8]), (10000, 0, 20000, None))
        self.assertIsNone(answer_of((("jump", 0),), run))

    def test_behind_the_last_row(self):
        run = begun((), (), 0, 0)
        self.assertEqual(run_on(RING[:1], run, 1)[3], 1)
        self.assertEqual(fault_of(RING[:1], run_on(RING[:1], run, 1)), "place")
        self.assertEqual(answer_of(RING[:1], run), ("fault", "place"))
        self.assertEqual(run_on(RING[:1], run, 9)[7], 2)
        self.assertEqual(answer_of((("jump", 119),), run), ("fault", "place"))

    def test_loop(self):
        end = run_on(LOOP, begun((), (), 0, 0), 1000)
        self.assertEqual((end[0][0], end[2], end[7], end[8]), (101, (0, 100, 0, 0), 204, ("answer", 101)))

    def test_just_within_20000(self):
        rows = (("addn", 0, 1), ("whenn", "below", 0, 9999, 0), ("set", 1, 0), ("answer", 0))
        run = begun((), (), 0, 0)
        self.assertEqual(answer_of(rows, run), ("answer", 9999))
        self.assertEqual(run_on(rows, run, 20000)[7], 20000)
        self.assertIsNone(answer_of(rows[:3] + rows[2:], run))


class TestWords(unittest.TestCase):
    def test_reckoned(self):
        for op, one, two, word in (
            ("add", 65535, 65535, 65534), ("sub", 0, 1, 65535), ("and", 65535, 1, 1), ("or", 0, 0, 0),
            ("xor", 65535, 65535, 0), ("left", 1, 31, 32768), ("right", 32768, 47, 1), ("left", 65535, 1, 65534),
        ):
            self.assertEqual(reckoned(op, one, two), word)
            self.assertEqual(reckoned(op=op, one=one, two=two), word)

    def test_does_hold(self):
        for one in (0, 1, 2, 3, 65535):
            for two in (0, 1, 2, 3, 65535):
                self.assertIs(does_hold("same", one, two), one == two)
                self.assertIs(does_hold("other", one, two), one != two)
                self.assertIs(does_hold("below", one, two), one < two)
                self.assertIs(does_hold("from", one, two), one >= two)
                self.assertIs(does_hold("bit", one, two), bool(one & two))
                self.assertIs(does_hold("nobit", one, two), not one & two)
