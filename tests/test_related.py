"""Point 24: what a relation tells of two known values."""

import random
import unittest

from suresieves.known import is_known, is_so, tight
from suresieves.runs import does_hold
from suresieves.ways import related_known
from tests import drawn
from tests.test_reckoned import known
from tests.values import ANY, number

OPPOSITES = {"same": "other", "below": "from", "bit": "nobit", "other": "same", "from": "below", "nobit": "bit"}


class TestRelatedKnown(unittest.TestCase):
    def check(self, relation, one, two, told_one, told_two):
        with self.subTest(relation=relation, one=one, two=two):
            self.assertTrue(is_known(one) and is_known(two))
            self.assertEqual(related_known(relation, one, two), (tight(told_one), tight(told_two)))

    def no_way(self, relation, one, two):
        with self.subTest(relation=relation, one=one, two=two):
            self.assertTrue(is_known(one) and is_known(two))
            self.assertIsNone(related_known(relation, one, two))

    def both(self, relation, one, two, told_one, told_two):
        """For relations that are the same from both sides."""
        self.check(relation, one, two, told_one, told_two)
        self.check(relation, two, one, told_two, told_one)

    def test_same(self):
        self.both("same", known(5, 20), known(9, 30), known(9, 20), known(9, 20))
        self.both("same", known(5, 20), known(20, 30), number(20), number(20))
        self.no_way("same", known(5, 20), known(21, 30))
        self.no_way("same", known(21, 30), known(5, 20))
        self.both("same", known(0, 99, 3, 1), known(0, 99, 12, 8), known(0, 99, 15, 9), known(0, 99, 15, 9))
        self.no_way("same", known(0, 99, 3, 1), known(0, 99, 2, 2))
        self.no_way("same", known(8, 9, 0, 0), known(0, 99, 15, 7))
        self.both("same", number(7), ANY, number(7), number(7))
        self.no_way("same", number(7), number(8))
        self.both("same", number(7), number(7), number(7), number(7))

    def test_same_from_outside(self):
        one, two = known(0, 99, 0, 0, 3, None, 2), known(0, 99, 0, 0, None, 9, None)
        told = known(0, 99, 0, 0, 3, 9, 2)
        self.both("same", one, two, told, told)
        one, two = known(0, 99, 0, 0, 3, 8, 2), known(0, 99, 0, 0, 4, 9, 1)
        self.both("same", one, two, known(0, 99, 0, 0, 3, 9, 2), known(0, 99, 0, 0, 4, 9, 1))
        self.both("same", known(0, 99, 0, 0, 0, 0, 0), ANY, known(0, 99, 0, 0, 0, 0, 0), known(0, 99, 0, 0, 0, 0, 0))
        # Of LEFT alone the greater one is told: what MINUS tells is no LEFT.
        self.both("same", known(0, 99, 0, 0, 9), known(0, 99, 0, 0, None, 4), known(0, 99, 0, 0, 9, 4),
                  known(0, 99, 0, 0, 9, 4))

    def test_other(self):
        self.both("other", known(5, 20), number(5), known(6, 20), number(5))
        self.both("other", known(5, 20), number(20), known(5, 19), number(20))
        self.both("other", known(5, 20), number(6), known(5, 20), number(6))
        self.both("other", known(5, 20), number(4), known(5, 20), number(4))
        self.both("other", known(5, 20), known(5, 5), known(6, 20), number(5))
        self.both("other", known(5, 6), number(6), number(5), number(6))
        self.both("other", known(0, 65535), number(65535), known(0, 65534), number(65535))
        self.both("other", known(0, 65535), number(0), known(1, 65535), number(0))
        self.both("other", number(5), number(6), number(5), number(6))
        for n in (0, 5, 65535):
            self.no_way("other", number(n), number(n))
            self.no_way("other", number(n), (n, n, 0, 0, None, None, None))
        self.both("other", known(5, 20), known(5, 20), known(5, 20), known(5, 20))
        self.both("other", known(4, 20, 3, 0), number(4), known(8, 20, 3, 0), number(4))
        self.no_way("other", known(4, 7, 3, 0), number(4))
        self.both("other", known(5, 20, 0, 0, 1, 2, 3), number(5), known(6, 20, 0, 0, 1, 2, 3), number(5))

    def test_below(self):
        self.check("below", known(5, 20), known(3, 10), known(5, 9), known(6, 10))
        self.check("below", known(5, 8), known(3, 10), known(5, 8), known(6, 10))
        self.check("below", known(5, 8), known(7, 10), known(5, 8), known(7, 10))
        self.check("below", ANY, ANY, known(0, 65534), known(1, 65535))
        self.no_way("below", known(5, 20), known(3, 5))
        self.check("below", known(5, 20), known(3, 6), number(5), number(6))
        self.no_way("below", ANY, number(0))
        self.no_way("below", number(65535), ANY)
        self.check("below", number(65534), ANY, number(65534), number(65535))
        self.no_way("below", known(4, 20, 3, 0), known(0, 9, 15, 4))

    def test_left_of_below(self):
        for one, two, left in (
            (ANY, known(0, 99, 0, 0, 0), 1), (ANY, known(0, 99, 0, 0, None, 0), 1), (ANY, known(0, 99, 0, 0, 3, 8), 9),
            (ANY, known(0, 99, 0, 0, 8, 3), 9), (ANY, known(0, 99), None), (ANY, known(0, 99, 0, 0, None, 255), 256),
            (ANY, known(0, 99, 0, 0, 256), 256), (known(0, 99, 0, 0, None, 9), known(0, 99, 0, 0, 8), 9),
            (known(0, 99, 0, 0, None, 9), known(0, 99, 0, 0, 9), 10), (known(0, 99, 0, 0, None, 9), ANY, 9),
            (known(0, 99, 0, 0, None, 11), known(0, 99, 0, 0, 9), 11), (known(0, 99, 0, 0, 30), known(0, 99, 0, 0, 9), 10),
        ):
            with self.subTest(one=one, two=two):
                pair = related_known("below", one, two)
                self.assertEqual((pair[0][4:], pair[1][4:]), ((one[4], left, one[6]), two[4:]))

    def test_from(self):
        self.check("from", known(5, 20), known(9, 30), known(9, 20), known(9, 20))
        self.check("from", known(9, 30), known(5, 20), known(9, 30), known(5, 20))
        self.check("from", known(9, 30), known(5, 40), known(9, 30), known(5, 30))
        self.check("from", known(5, 9), known(9, 30), number(9), number(9))
        self.no_way("from", known(5, 9), known(10, 30))
        self.check("from", ANY, ANY, ANY, ANY)
        self.check("from", ANY, number(65535), number(65535), number(65535))
        self.check("from", number(0), ANY, number(0), number(0))

    def test_left_of_from(self):
        for one, two, left in (
            (known(0, 99, 0, 0, 0), ANY, 0), (known(0, 99, 0, 0, None, 7), ANY, 7), (known(0, 99, 0, 0, 3, 8), ANY, 8),
            (known(0, 99, 0, 0, 8, 3), ANY, 8), (known(0, 99), ANY, None), (known(0, 99, 0, 0, 256), ANY, 256),
            (known(0, 99, 0, 0, 8), known(0, 99, 0, 0, None, 9), 9), (ANY, known(0, 99, 0, 0, None, 9), 9),
            (known(0, 99, 0, 0, 10), known(0, 99, 0, 0, None, 9), 10), (ANY, known(0, 99, 0, 0, 9), None),
        ):
            with self.subTest(one=one, two=two):
                pair = related_known("from", one, two)
                self.assertEqual((pair[0][4:], pair[1][4:]), (one[4:], (two[4], left, two[6])))

    def test_bit(self):
        self.both("bit", ANY, number(4), known(0, 65535, 4, 4), number(4))
        self.both("bit", ANY, number(32768), known(32768, 65535), number(32768))
        self.both("bit", known(0, 99, 3, 1), number(4), known(0, 99, 7, 5), number(4))
        self.both("bit", known(0, 99, 5, 5), number(4), known(0, 99, 5, 5), number(4))
        self.no_way("bit", known(0, 99, 5, 1), number(4))
        self.no_way("bit", number(4), known(0, 99, 5, 1))
        self.no_way("bit", known(0, 3), number(4))
        self.both("bit", ANY, number(6), ANY, number(6))
        self.both("bit", known(0, 99, 6, 0), number(6), known(0, 99, 6, 0), number(6))
        self.no_way("bit", ANY, number(0))
        self.no_way("bit", number(0), ANY)
        self.no_way("bit", number(0), number(0))
        self.both("bit", known(0, 9), known(0, 70), known(0, 9), known(0, 70))
        self.both("bit", number(4), number(12), number(4), number(12))
        self.no_way("bit", number(4), number(8))
        self.both("bit", known(0, 99, 0, 0, 1, 2, 3), number(4), known(0, 99, 4, 4, 1, 2, 3), number(4))
        self.both("bit", ANY, (4, 4, 0, 0, None, None, None), known(0, 65535, 4, 4), number(4))

    def test_nobit(self):
        self.both("nobit", ANY, number(6), known(0, 65535, 6, 0), number(6))
        self.both("nobit", known(0, 99, 9, 8), number(6), known(0, 99, 15, 8), number(6))
        self.no_way("nobit", known(0, 99, 2, 2), number(6))
        self.no_way("nobit", number(6), known(0, 99, 2, 2))
        self.no_way("nobit", known(6, 7), number(2))
        self.both("nobit", ANY, number(0), ANY, number(0))
        self.both("nobit", ANY, number(65535), number(0), number(65535))
        self.both("nobit", known(0, 9), known(0, 70), known(0, 9), known(0, 70))
        self.both("nobit", number(4), number(3), number(4), number(3))
        self.no_way("nobit", number(4), number(6))
        self.both("nobit", known(0, 99, 0, 0, 1, 2, 3), number(6), known(0, 99, 6, 0, 1, 2, 3), number(6))

    def test_made_tight(self):
        loose = (5, 20, 0, 0, None, None, None)
        for relation in OPPOSITES:
            pair = related_known(relation, loose, (0, 99, 0, 0, None, None, None))
            self.assertEqual(pair, (tight(pair[0]), tight(pair[1])))

    def test_stays_so_where_the_relation_holds(self):
        chance = random.Random(24)
        seen = {}
        for _ in range(4000):
            run = drawn.midway(chance)
            size = len(run[4])
            x = chance.choice((size, chance.randint(0, size), drawn.small(chance)))
            y = chance.choice((x, x + 1 & 65535, x - 1 & 65535, size, chance.randint(0, size), drawn.small(chance)))
            one, two = drawn.known_of(chance, x, run), drawn.known_of(chance, y, run)
            for first, second in ((one, two), (one, number(y)), (number(x), two)):
                for relation in OPPOSITES:
                    pair = related_known(relation, first, second)
                    holds = does_hold(relation, x, y)
                    seen[relation, holds, pair is None] = seen.get((relation, holds, pair is None), 0) + 1
                    if pair is not None:
                        self.assertEqual(pair, (tight(pair[0]), tight(pair[1])))
                    if holds:
                        self.assertIsNotNone(pair, (relation, first, second, x, y))
                        self.assertTrue(is_so(pair[0], x, run), (relation, first, second, x, y))
                        self.assertTrue(is_so(pair[1], y, run), (relation, first, second, x, y))
        for relation in OPPOSITES:
            self.assertGreater(seen[relation, False, True], 5, relation)
