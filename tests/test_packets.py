"""Point 7: packets, tables, grants."""

import unittest

from suresieves.packets import are_tables, grant_for, is_grant, is_packet, is_table
from tests.values import GRANT, PACKET, STRANGE, TABLES, put

NO_WORDS = STRANGE + (-1, 65536, 10 ** 30, (), (1,))


class TestPackets(unittest.TestCase):
    def test_packets(self):
        for value in ((), (0,), (255,), PACKET, (7,) * 256):
            self.assertIs(is_packet(value), True)
        for value in ((7,) * 257, (256,), (-1,), [1, 2], (1, 2, None), b"ab", "ab", (True,), (0, False)):
            self.assertIs(is_packet(value), False)
        for value in STRANGE + ((), (1,)):
            for index in range(3):
                self.assertIs(is_packet(put((1, 2, 3), index, value)), False)

    def test_arrays(self):
        for value in (("array", 0, (0,)), ("array", 1, (65535,) * 32), ("array", 1, (3, 1, 2, 1))):
            self.assertIs(is_table(value), True)
        for value in (
            ("array", 0, ()), ("array", 0, (0,) * 33), ("array", 2, (0,)), ("array", True, (0,)),
            ("array", 0, [0]), ["array", 0, (0,)], ("array", 0), ("array", 0, (0,), 0), ("Array", 0, (0,)),
            (b"array", 0, (0,)), ("array", -1, (0,)), ("array", None, (0,)), ("array", 1, ((1, 2),)),
        ):
            self.assertIs(is_table(value), False)
        for value in NO_WORDS:
            self.assertIs(is_table(("array", 1, (0, value))), False)
            self.assertIs(is_table(put(("array", 1, (0,)), 0, value)), value == "array")

    def test_pairs(self):
        most = tuple((key, 0) for key in range(16))
        for value in (("pairs", 0, ()), ("pairs", 1, ((0, 65535), (65535, 0))), ("pairs", 1, most)):
            self.assertIs(is_table(value), True)
        for value in (
            ("pairs", 1, most + ((16, 0),)), ("pairs", 1, ((1, 0), (1, 0))), ("pairs", 1, ((2, 0), (1, 0))),
            ("pairs", 1, ((1, 0, 0),)), ("pairs", 1, ((1,),)), ("pairs", 1, ([1, 2],)), ("pairs", 1, [(1, 2)]),
            ("pairs", 1, (1, 2)), ("pairs", 1, {1: 2}), ("pairs", False, ()), ("pairs", 1, ((1, 65536),)),
            ("pairs", 1, ((65536, 1),)), ("pairs", 1, ((-1, 1),)), ("pair", 1, ()),
        ):
            self.assertIs(is_table(value), False)
        for value in NO_WORDS:
            self.assertIs(is_table(("pairs", 1, ((value, 1),))), False)
            self.assertIs(is_table(("pairs", 1, ((1, value),))), False)

    def test_tables(self):
        for value in ((), TABLES, (TABLES[0],) * 6):
            self.assertIs(are_tables(value), True)
        for value in ((TABLES[0],) * 7, list(TABLES), TABLES + (None,), TABLES[0], (("array", 1, ()),)):
            self.assertIs(are_tables(value), False)

    def test_grants(self):
        right = (
            (0, 0, 0, ()), (256, 256, 1, ()), (0, 256, 0, (("array", 0, 1),) * 6), GRANT,
            (3, 4, 1, (("array", 1, 32), ("pairs", 0, 0), ("pairs", 1, 16))),
        )
        for value in right:
            self.assertIs(is_grant(value), True)
        for value in (
            (5, 4, 0, ()), (-1, 4, 0, ()), (0, 257, 0, ()), (257, 257, 0, ()), (0, 4, 2, ()), (0, 4, -1, ()),
            (False, 4, 0, ()), (0, True, 0, ()), (0, 4, False, ()), (0, 4, 0, []), [0, 4, 0, ()],
            (0, 4, 0), (0, 4, 0, (), ()), (0, 4, 0, (("array", 0, 1),) * 7), (0, 4, 0, ("array", 0, 1)),
        ):
            self.assertIs(is_grant(value), False)

    def test_kinds(self):
        for kind in (
            ("array", 0, 0), ("array", 0, 33), ("array", 2, 1), ("array", True, 1), ("array", 0, True),
            ("array", 0), ("array", 0, 1, 1), ["array", 0, 1], ("array", 0, (1,)), ("array", 0, None),
            ("pairs", 0, -1), ("pairs", 0, 17), ("pairs", 0, False), ("pairs", 0, ()), ("both", 0, 1),
            (0, 0, 1), (None, 0, 1), ("pairs", "0", 1), ("pairs", -1, 1),
        ):
            with self.subTest(kind=kind):
                self.assertIs(is_grant((0, 4, 0, (kind,))), False)
                self.assertIs(is_grant((0, 4, 0, (("array", 0, 1), kind))), False)

    def test_narrowest(self):
        kinds = (("array", 1, 3), ("pairs", 1, 2), ("array", 0, 1), ("pairs", 0, 0))
        self.assertEqual(grant_for(PACKET, TABLES, 1), (4, 4, 1, kinds))
        self.assertEqual(grant_for((), (), 0), (0, 0, 0, ()))
        self.assertEqual(grant_for((0,) * 256, (), 0), (256, 256, 0, ()))
        self.assertTrue(is_grant(grant_for(PACKET, TABLES, 1)))
