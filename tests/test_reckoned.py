"""Point 23: what OP makes of two known values."""

import random
import unittest

from suresieves.known import is_known, is_so, tight
from suresieves.runs import reckoned
from suresieves.ways import reckoned_known
from tests import drawn
from tests.values import ANY, number, put


def known(low, high, mask=0, bits=0, minus=None, left=None, handle=None):
    return (low, high, mask, bits, minus, left, handle)


class TestReckonedKnown(unittest.TestCase):
    def check(self, op, one, two, told, least=0):
        with self.subTest(op=op, one=one, two=two, least=least):
            self.assertTrue(is_known(one) and is_known(two))
            self.assertEqual(reckoned_known(op, one, two, least), tight(told))

    def test_two_numbers(self):
        for op in drawn.OPS:
            for one in (0, 1, 5, 32768, 65535):
                for two in (0, 1, 3, 15, 16, 17, 65535):
                    word = reckoned(op, one, two)
                    full = (7, 7, 0, 0, 3, 4, 2)
                    self.check(op, number(one), number(two), number(word))
                    self.assertEqual(reckoned_known(op, (one, one) + full[2:], (two, two) + full[2:], 256), number(word))

    def test_add_stretches(self):
        low, high = known(10, 20), known(100, 200)
        self.check("add", low, high, known(110, 220))
        self.check("add", high, low, known(110, 220))
        self.check("add", known(0, 65000), known(0, 535), known(0, 65535))
        self.check("add", known(1, 65000), known(1, 536), known(0, 65535))
        self.check("add", known(65000, 65001), known(535, 540), known(0, 65535))
        self.check("add", known(65000, 65001), known(536, 540), known(0, 5))
        self.check("add", known(65534, 65535), known(65533, 65535), known(65531, 65534))
        self.check("add", low, number(65535), known(9, 19))
        self.check("add", known(0, 20), number(65535), known(0, 65535))
        self.check("add", low, number(7), known(17, 27))
        self.check("add", number(7), low, known(17, 27))

    def test_sub_stretches(self):
        self.check("sub", known(100, 200), known(10, 20), known(80, 190))
        self.check("sub", known(20, 200), known(10, 20), known(0, 190))
        self.check("sub", known(19, 200), known(10, 20), known(0, 65535))
        self.check("sub", known(1, 9), known(10, 20), known(65517, 65535))
        self.check("sub", known(1, 10), known(10, 20), known(0, 65535))
        self.check("sub", number(50), known(10, 20), known(30, 40))
        self.check("sub", number(5), known(10, 20), known(65521, 65531))

    def test_sub_of_a_number_is_add(self):
        for one in (known(10, 20), known(10, 20, 0, 0, 4, 9, 2), known(0, 65535, 7, 5, 200, 3), known(65000, 65535), ANY):
            for n in (0, 1, 5, 10, 20, 21, 200, 256, 32768, 65535):
                for least in (0, 5, 256):
                    told = reckoned_known("add", one, number((65536 - n) % 65536), least)
                    self.assertEqual(reckoned_known("sub", one, number(n), least), told)
        self.check("sub", known(10, 20), number(10), known(0, 10))
        self.check("sub", known(10, 20), number(11), known(0, 65535))
        self.check("sub", known(10, 20), number(0), known(10, 20))
        self.check("sub", known(10, 20), number(21), known(65525, 65535))
        self.check("sub", known(20, 64, 0, 0, 0), number(4), known(16, 60, 0, 0, 4), 20)
        self.check("sub", known(0, 64, 0, 0, None, 9), number(0), known(0, 64, 0, 0, None, 9))
        self.check("sub", known(20, 64, 0, 0, None, 9), number(4), known(16, 60))
        untight = (4, 4, 0, 0, 9, 9, 1)
        self.check("sub", known(20, 64, 3, 1), untight, known(16, 60, 3, 1))

    def test_lowest_bits_of_add_and_sub(self):
        one, two = known(0, 1000, 7, 5), known(0, 1000, 15, 6)
        self.check("add", one, two, known(0, 2000, 7, 3))
        self.check("add", known(0, 1000, 11, 1), two, known(0, 2000, 3, 3))
        self.check("add", known(0, 1000, 6, 4), two, known(0, 2000))
        self.check("add", known(0, 65535, 1, 1), known(0, 65535, 65535 - 2, 1), known(0, 65535, 1, 0))
        far = known(2000, 3007, 7, 5)
        self.check("sub", far, two, known(1000, 3007, 7, 7))
        self.check("sub", known(0, 65535, 7, 1), known(0, 65535, 3, 2), known(0, 65535, 3, 3))
        self.check("sub", known(0, 65535, 65534, 2), known(0, 65535, 3, 2), known(0, 65535))
        self.check("add", known(0, 65535, 7, 5), number(9), known(0, 65535, 7, 6))

    def test_minus_of_add(self):
        one = known(0, 256, 0, 0, 10)
        self.check("add", one, number(10), known(10, 266, 0, 0, 0, 0))
        self.check("add", one, number(11), known(11, 267))
        self.check("add", one, number(0), known(0, 256, 0, 0, 10, 10))
        self.check("add", one, number(3), known(3, 259, 0, 0, 7, 7))
        for minus, n, least, told in (
            (0, 65532, 4, 4), (0, 65532, 3, None), (0, 65532, 256, 4), (10, 65530, 16, 16), (10, 65530, 15, None),
            (0, 65280, 256, 256), (0, 65279, 256, None), (1, 65280, 256, None), (256, 65535, 256, None),
            (255, 65535, 256, 256), (255, 65535, 255, None), (200, 201, 256, None), (200, 200, 0, 0),
        ):
            out = reckoned_known("add", put(ANY, 4, minus), number(n), least)
            self.assertEqual(out[4], told, (minus, n, least))
        self.assertIsNone(reckoned_known("add", number(3), one, 256)[4])
        self.assertIsNone(reckoned_known("add", one, known(3, 4), 256)[4])
        self.assertIsNone(reckoned_known("sub", one, known(3, 4), 256)[4])
        self.assertEqual(reckoned_known("add", known(65000, 65535, 0, 0, 3), number(65535), 4)[4], 4)
        self.assertEqual(reckoned_known("sub", one, number(65533), 0)[4], 7)

    def test_left_of_add(self):
        for one, two, left in (
            (known(0, 9, 0, 0, None, 20), known(0, 5), 15), (known(0, 9, 0, 0, 20), known(0, 5), 15),
            (known(0, 9, 0, 0, 20, 30), known(0, 5), 25), (known(0, 9, 0, 0, 30, 20), known(0, 5), 25),
            (known(0, 9, 0, 0, None, 5), known(0, 5), 0), (known(0, 9, 0, 0, None, 4), known(0, 5), None),
            (known(0, 5), known(0, 9, 0, 0, None, 20), 15), (known(0, 5, 0, 0, 8), known(0, 3, 0, 0, 11), 6),
            (known(0, 5, 0, 0, 12), known(0, 3, 0, 0, 11), 9), (known(0, 5, 0, 0, 1), known(0, 3, 0, 0, 11), 6),
            (known(0, 5), known(0, 9), None), (known(0, 65531, 0, 0, None, 20), known(0, 5), None),
            (known(0, 65530, 0, 0, None, 20), known(0, 5), 15), (known(65530, 65535, 0, 0, None, 20), known(9, 10), None),
        ):
            with self.subTest(one=one, two=two):
                self.assertEqual(reckoned_known("add", one, two, 256)[5], left)
        # The room of a stretch below the length is not reckoned with.
        self.assertIsNone(reckoned_known("add", known(0, 9), known(0, 9), 256)[5])

    def test_left_of_sub(self):
        for one, two, left in (
            (known(20, 29, 0, 0, None, 7), known(3, 9), 10), (known(20, 29, 0, 0, 7), known(3, 9), 10),
            (known(20, 29, 0, 0, 250), known(6, 9), 256), (known(20, 29, 0, 0, 250), known(7, 9), 256),
            (known(20, 29), known(3, 9, 0, 0, 5, 5), None), (known(2, 29, 0, 0, None, 7), known(3, 9), None),
            (known(1, 2, 0, 0, None, 7), known(3, 9), None), (number(20), known(3, 9, 0, 0, 1), None),
        ):
            with self.subTest(one=one, two=two):
                self.assertEqual(reckoned_known("sub", one, two, 256)[4:], (None, left, None))

    def test_and(self):
        self.check("and", known(5, 20), known(3, 9), known(0, 9))
        self.check("and", ANY, number(5), known(0, 5, 65530, 0))
        # Known as 0 by one of both: 1 and 4 (of 15, 10), 1 and 16 (of 51, 34); 1 in both: 2.
        self.check("and", known(0, 65535, 15, 10), known(0, 65535, 51, 34), known(0, 65535, 23, 2))
        self.check("and", known(0, 99, 0, 0, 3, 9), known(0, 99, 0, 0, 12, None, 3), known(0, 99, 0, 0, None, 12))
        self.check("and", known(0, 99, 0, 0, None, 9), number(65535), known(0, 99, 0, 0, None, 9))
        self.check("and", known(0, 99), known(0, 70, 0, 0, 5), known(0, 70, 0, 0, None, 5))
        self.check("and", known(0, 99), known(0, 70), known(0, 70))

    def test_or(self):
        self.check("or", known(5, 20), known(3, 9), known(5, 31))
        self.check("or", known(3, 9), known(5, 20), known(5, 31))
        self.check("or", known(0, 31), known(0, 32), known(0, 63))
        self.check("or", known(0, 1), known(0, 1), known(0, 1))
        self.check("or", ANY, number(40000), known(40000, 65535, 40000, 40000))
        one, two = known(0, 200, 15, 10), known(0, 200, 51, 34)
        # 1 in one of both: 2 and 8, 2 and 32; 0 in both: 1.
        self.check("or", one, two, known(0, 255, 43, 42))
        self.check("or", known(0, 99, 0, 0, 3, 9), known(0, 99, 0, 0, 12, 12, 3), known(0, 127))
        self.check("or", known(0, 99, 0, 0, 3, 9, 2), number(0), known(0, 127))

    def test_xor(self):
        self.check("xor", known(5, 20), known(3, 9), known(0, 31))
        self.check("xor", ANY, ANY, ANY)
        self.check("xor", known(0, 1), known(0, 1), known(0, 1))
        self.check("xor", known(0, 200, 15, 10), known(0, 200, 51, 34), known(0, 255, 3, 0))
        self.check("xor", known(0, 99, 0, 0, 3, 9, 2), number(0), known(0, 127))

    def test_left(self):
        self.check("left", known(5, 20), number(2), known(20, 80, 3, 0))
        self.check("left", known(5, 20), number(18), known(20, 80, 3, 0))
        self.check("left", known(5, 20), number(16), known(5, 20))
        self.check("left", known(5, 65535), number(0), known(5, 65535))
        self.check("left", known(0, 4095), number(4), known(0, 65520, 15, 0))
        self.check("left", known(0, 4096), number(4), known(0, 65535, 15, 0))
        self.check("left", known(1, 16383, 4099, 4097, 5, 6, 2), number(2), known(4, 65532, 16399, 16388))
        self.check("left", known(0, 65535, 61443, 4097), number(4), known(0, 65535, 63, 16))
        self.check("left", known(5, 20), known(1, 2), ANY)
        self.check("left", known(5, 20), known(16, 32), ANY)
        self.check("left", number(5), known(0, 1), ANY)

    def test_right(self):
        self.check("right", known(5, 20), number(2), known(1, 5, 49152, 0))
        self.check("right", known(5, 20, 0, 0, 3, 9, 2), number(2), known(1, 5, 49152, 0, None, 9))
        self.check("right", known(5, 20, 0, 0, 9, 3, 2), number(17), known(2, 10, 32768, 0, None, 9))
        self.check("right", known(5, 20, 0, 0, 9), number(16), known(5, 20, 0, 0, None, 9))
        self.check("right", known(0, 65535, 65283, 32769), number(1), known(0, 32767, 65409, 16384))
        self.check("right", known(5, 20, 0, 0, 3, 9, 2), known(1, 2), known(0, 20, 0, 0, None, 9))
        self.check("right", known(5, 20, 7, 5), known(1, 2), known(0, 20))
        self.check("right", ANY, number(15), known(0, 1))

    def test_whatever_words_they_are_so_of(self):
        chance = random.Random(23)
        for _ in range(3000):
            run = drawn.midway(chance)
            size = len(run[4])
            near = lambda: chance.choice((size, max(0, size - chance.randint(0, size)), drawn.small(chance)))
            x, y = near(), near()
            one, two = drawn.known_of(chance, x, run), drawn.known_of(chance, y, run)
            least = chance.choice((size, chance.randint(0, size)))
            for op in drawn.OPS:
                for first, second in ((one, two), (one, number(y)), (number(x), two)):
                    told = reckoned_known(op, first, second, least)
                    self.assertTrue(is_known(told))
                    self.assertEqual(tight(told), told)
                    self.assertTrue(is_so(told, reckoned(op, x, y), run), (op, first, second, x, y, size))
