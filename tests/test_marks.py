"""Points 43 and 44: marks, their bounds and worths, and how they are made."""

import random
import unittest

from suresieves.errors import InvalidMarks
from suresieves.hosts import host_row
from suresieves.judge import bound_of, made_mark, worth_of
from suresieves.maps import entered
from tests import drawn
from tests.test_hosts import OPS, TOP, host_with
from tests.values import STRANGE, put, run_with

ANY_CELL, WORD, COUNT, LENGTH = ("cell", 3), ("box", 1), ("box", 25), ("box", 28)


def number(n):
    return ("number", n)


def bound(op, one, two):
    """The bound of OP and two marks that name no others."""
    return bound_of((one, two, (op, 0, 1)) if one != two else (one, (op, 0, 0)), 2 if one != two else 1)


def host_op(op, one, two):
    return host_row((op, 2, 0, 1), host_with(one, two))[0][2]


class TestMarks(unittest.TestCase):
    def test_right(self):
        for mark in (number(0), number(TOP), ("cell", 0), ("cell", 11), ("box", 0), ("box", 111), ("got", 0), ("got", 79)):
            self.assertEqual(made_mark((mark, number(5)), "add", 1, 1)[0][:2], (mark, number(5)))
        for op in OPS:
            for i in (0, 1):
                for j in (0, 1):
                    marks = (WORD, COUNT, (op, i, j))
                    self.assertEqual(made_mark(marks, op, i, j), (marks, 2))

    def wrong(self, marks, index):
        with self.subTest(marks=marks):
            for call in (lambda: made_mark(marks, "add", 0, 0), lambda: bound_of(marks, 0), lambda: worth_of(marks, 0, host_with(), ())):
                with self.assertRaises(InvalidMarks) as caught:
                    call()
                self.assertEqual(caught.exception.index, index)

    def test_wrong(self):
        for mark in STRANGE + ((), number(-1), number(TOP + 1), ("cell", 12), ("cell", -1), ("box", 112), ("box", -1), ("got", 80), ("got", -1),
                               ("number",), ("number", 0, 0), ("number", True), ("cell", None), ("got", "0"), ("slot", 0), ("add", 0),
                               ("add", 0, 2), ("add", 2, 0), ("add", -1, 0), ("add", 0, -1), ("add", 0, True), ("add", 0, 0, 0), ("mix", 0, 0),
                               ("addn", 0, 0), (("add",), 0, 0), ["box", 2], ("when", 0, 0)):
            self.wrong((WORD, COUNT, mark), 2)
            self.wrong((WORD, COUNT, mark, 0), 2)
            self.wrong((mark, WORD), 0)
        for op in OPS:
            self.wrong(((op, 0, 0),), 0)
        self.wrong((WORD, COUNT, WORD), 2)
        self.wrong((WORD, COUNT, ("add", 0, 1), ("add", 1, 0), ("add", 0, 1), ("add", 0, 1)), 4)
        self.wrong((number(1), number(2), number(1)), 2)

    def test_no_such_mark(self):
        self.assertEqual(bound_of((WORD,), 0), 65535)
        self.assertEqual(made_mark((WORD,), "sub", 0, 0), ((WORD, ("sub", 0, 0)), 1))


class TestBounds(unittest.TestCase):
    def test_what_names_no_other(self):
        for n in (0, 1, 65535, 65536, TOP):
            self.assertEqual(bound_of((number(n),), 0), n)
        for k in range(112):
            told = 65535 if k < 24 or k == 29 else 100 if k < 28 else 256 if k == 28 else TOP
            self.assertEqual(bound_of((("box", k),), 0), told, k)
        for c in range(12):
            self.assertEqual(bound_of((("cell", c),), 0), TOP)
        for j in (0, 79):
            self.assertEqual(bound_of((("got", j),), 0), 65535)

    def test_and_and_ones(self):
        for one, two, told, ones in (
            (WORD, COUNT, 100, 7), (COUNT, WORD, 100, 7), (ANY_CELL, LENGTH, 256, 9), (WORD, WORD, 65535, 16),
            (ANY_CELL, ANY_CELL, TOP, 32), (number(0), WORD, 0, 0), (WORD, number(1), 1, 1), (WORD, number(127), 127, 7),
            (WORD, number(128), 128, 8), (number(126), ANY_CELL, 126, 7),
        ):
            self.assertEqual(bound("and", one, two), told)
            self.assertEqual(bound("ones", one, two), ones)

    def test_or_and_xor(self):
        for one, two, told in (
            (WORD, COUNT, 65535), (COUNT, LENGTH, 511), (COUNT, number(127), 127), (COUNT, number(128), 255), (number(0), number(1), 1),
            (COUNT, COUNT, 127), (ANY_CELL, WORD, TOP), (number(65536), WORD, 131071), (number(0), COUNT, 127), (LENGTH, number(255), 511),
        ):
            for op in ("or", "xor"):
                self.assertEqual(bound(op, one, two), told)
                self.assertEqual(bound(op, two, one), told)

    def test_add_times_and_left(self):
        for op, one, two, told in (
            ("add", WORD, COUNT, 65635), ("add", WORD, WORD, 131070), ("add", ANY_CELL, number(1), TOP), ("add", ANY_CELL, number(0), TOP),
            ("add", number(TOP - 5), number(5), TOP), ("add", number(TOP - 5), number(6), TOP), ("add", number(TOP - 6), number(5), TOP - 1),
            ("times", WORD, number(40503), 65535 * 40503), ("times", WORD, number(65537), TOP), ("times", WORD, number(65538), TOP),
            ("times", WORD, WORD, 65535 * 65535), ("times", WORD, number(0), 0), ("times", ANY_CELL, number(2), TOP),
            ("times", COUNT, LENGTH, 25600), ("left", COUNT, number(4), 1600), ("left", WORD, number(16), 65535 << 16),
            ("left", WORD, number(17), TOP), ("left", WORD, number(33), 131070), ("left", WORD, number(32), 65535),
            ("left", number(0), number(31), 0), ("left", COUNT, WORD, TOP), ("left", number(0), WORD, TOP), ("left", LENGTH, number(24), TOP),
            ("left", LENGTH, number(23), 256 << 23),
        ):
            self.assertEqual(bound(op, one, two), told, (op, one, two))

    def test_right_same_below_and_all_else(self):
        for one, two, told in (
            (WORD, number(4), 4095), (WORD, number(36), 4095), (WORD, number(0), 65535), (ANY_CELL, number(31), 1), (WORD, number(16), 0),
            (WORD, COUNT, 65535), (COUNT, WORD, 100), (ANY_CELL, WORD, TOP),
        ):
            self.assertEqual(bound("right", one, two), told)
        for one in (WORD, ANY_CELL, number(0)):
            for two in (COUNT, number(7), ANY_CELL):
                self.assertEqual(bound("same", one, two), 1)
                self.assertEqual(bound("below", one, two), 1)
                self.assertEqual(bound("sub", one, two), TOP)
        self.assertEqual(bound("sub", number(0), number(0)), TOP)

    def test_of_marks_of_marks(self):
        marks = (WORD, number(15), ("and", 0, 1), ("left", 0, 2), ("left", 0, 1), number(65535), ("and", 4, 5), ("right", 6, 2),
                 ("add", 7, 7), ("times", 8, 8), ("ones", 9, 9), ("or", 10, 2), ("same", 3, 3), ("sub", 12, 11), ("and", 13, 11))
        told = (65535, 15, 15, TOP, 65535 << 15, 65535, 65535, 65535, 131070, TOP, 32, 63, 1, TOP, 63)
        for at, most in enumerate(told):
            self.assertEqual(bound_of(marks, at), most, marks[at])


class TestMade(unittest.TestCase):
    def check(self, marks, op, one, two, told):
        """What is taken is the mark told: one that stands there, or one more behind the others."""
        with self.subTest(op=op, one=marks[one], two=marks[two]):
            behind, at = made_mark(marks, op, one, two)
            self.assertEqual(behind[at], told)
            self.assertEqual(behind, marks if told in marks else marks + (told,))

    def test_numbers(self):
        for op in OPS:
            for one in (0, 1, 5, 65535, TOP):
                for two in (0, 1, 3, 31, 33, 65535, TOP):
                    marks = (WORD, number(one)) + ((number(two),) if one != two else ())
                    self.check(marks, op, 1, len(marks) - 1, number(host_op(op, one, two)))

    def test_nought(self):
        marks = (WORD, number(0), ANY_CELL, number(1), COUNT)
        for op in ("add", "sub", "or", "xor", "left", "right"):
            for at in (0, 2, 4):
                self.check(marks, op, at, 1, marks[at])
                self.check(marks, op, 1, at, (op, 1, at))
                self.check(marks, op, at, 3, (op, at, 3))
        for op in ("times", "same", "below", "ones"):
            self.check(marks, op, 0, 1, (op, 0, 1))

    def test_and_of_full_numbers(self):
        for one, two, is_kept in (
            (WORD, 65535, True), (WORD, 65534, False), (WORD, 32767, False), (WORD, 131071, True), (WORD, 65536, False), (WORD, 65537, False),
            (COUNT, 127, True), (COUNT, 100, False), (COUNT, 63, False), (COUNT, 128, False), (COUNT, 255, True), (LENGTH, 255, False),
            (LENGTH, 511, True), (LENGTH, 256, False), (ANY_CELL, TOP, True), (ANY_CELL, TOP >> 1, False), (ANY_CELL, TOP - 1, False),
            (("got", 5), 65535, True), (WORD, 0, False), (("box", 29), 65535, True), (("box", 30), 65535, False), (("box", 30), TOP, True),
        ):
            marks = (one, number(two))
            self.check(marks, "and", 0, 1, one if is_kept else ("and", 0, 1))
            self.check(marks, "and", 1, 0, ("and", 1, 0))
            self.check(marks, "or", 0, 1, ("or", 0, 1) if two else one)
        self.check((WORD, number(16), ("right", 0, 1), number(0)), "and", 2, 3, ("right", 0, 1))
        self.check((WORD, number(15), ("right", 0, 1), number(0)), "and", 2, 3, ("and", 2, 3))
        self.check((WORD, number(15), ("right", 0, 1), number(1)), "and", 2, 3, ("right", 0, 1))

    def test_what_stands_there_already(self):
        marks = (WORD, COUNT, ("add", 0, 1), number(8), number(5), number(3))
        self.check(marks, "add", 0, 1, ("add", 0, 1))
        self.check(marks, "add", 1, 0, ("add", 1, 0))
        self.check(marks, "sub", 4, 5, number(2))
        self.check(marks, "sub", 3, 4, number(3))
        self.assertEqual(made_mark(marks, "add", 4, 5), (marks, 3))


class TestWorths(unittest.TestCase):
    def test_by_hand(self):
        host = host_with(9, TOP, boxes=(5, 65535))
        marks = (number(3), ("cell", 1), ("box", 0), ("got", 0), ("got", 2), ("add", 1, 0), ("sub", 2, 3), ("times", 5, 6), ("got", 79))
        for at, told in enumerate((3, TOP, 5, 11, 33, 2, (5 - 11) % 2 ** 32, (2 * (5 - 11)) % 2 ** 32, 0)):
            self.assertEqual(worth_of(marks, at, host, (11, 22, 33)), told)
        self.assertEqual(worth_of(marks, 4, host, (11, 22)), 0)
        self.assertEqual(worth_of(marks, 3, host, ()), 0)
        self.assertEqual(worth_of(marks, 6, host, ()), 5)

    def test_each_op(self):
        for op in OPS:
            for one, two in ((5, 3), (3, 5), (TOP, 31), (TOP, 33), (65535, 65535), (0, 0)):
                marks = (("cell", 0), ("cell", 1), (op, 0, 1))
                self.assertEqual(worth_of(marks, 2, host_with(one, two), ()), host_op(op, one, two))

    def test_drawn(self):
        """No worth is above its bound; the worth of what is made is what OP makes of both worths."""
        chance = random.Random(43)
        for _ in range(130):
            marks = (number(0), number(65535), number(chance.randint(1, 40)), ("box", chance.randrange(30)), ("cell", 2), ("got", 1))
            for _ in range(14):
                op = chance.choice(OPS)
                one, two = (chance.randrange(len(marks)) for _ in range(2))
                marks, at = made_mark(marks, op, one, two)
                self.hold(chance, marks, op, one, two, at)
            for at in range(len(marks)):
                run = drawn.midway(chance)
                self.assertLessEqual(worth_of(marks, at, self.host(chance, run), (65535, 65535)), bound_of(marks, at))

    def host(self, chance, run):
        cells, boxes = entered(run)
        boxes = boxes[:30] + tuple(chance.choice((0, TOP, chance.randint(0, TOP))) for _ in range(82))
        return tuple(chance.choice((0, 1, TOP, chance.randint(0, TOP))) for _ in range(12)), boxes

    def hold(self, chance, marks, op, one, two, at):
        words = tuple(chance.choice((0, 65535, chance.randint(0, 65535))) for _ in range(2))
        for run in (drawn.midway(chance), run_with(registers=(65535,) * 8, slots=(65535,) * 16, counters=(100,) * 4, packet=(0,) * 256,
                                                   clock=65535)):
            host = self.host(chance, run)
            worths = [worth_of(marks, number_of, host, words) for number_of in (one, two, at)]
            self.assertEqual(worths[2], host_op(op, worths[0], worths[1]), (marks, op, one, two))
            self.assertLessEqual(worths[2], bound_of(marks, at))

    def test_words_of_runs(self):
        self.assertEqual(put((0,), 0, worth_of((("box", 28),), 0, entered(run_with(packet=(0,) * 256)), ())), (256,))
