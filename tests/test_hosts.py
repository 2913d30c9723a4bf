"""Points 38 to 40: the host, its rows, translations, and how they are gone through."""

import random
import unittest

from suresieves.hosts import host_row, is_host, is_translation, run_host
from tests.values import HOST, START, STRANGE, put, run_with

TOP = 4294967295
OPS = ("add", "sub", "times", "and", "or", "xor", "left", "right", "same", "below", "ones")
LEAVE = (0, "end", 0, None) + START
TABLES = (("array", 1, (5, 65535, 0)), ("pairs", 1, ((2, 20), (7, 70))), ("array", 0, (1,)), ("pairs", 0, ()))
RUN = run_with(packet=(9, 8, 7), tables=TABLES, writable=1, place=3)


def host_with(*cells, boxes=()):
    """A HOST of which the first cells and boxes are told, the others hold 77."""
    return tuple(cells) + (77,) * (12 - len(cells)), tuple(boxes) + (77,) * (112 - len(boxes))


def translation(*rows, exits=2):
    return tuple(rows) + (("leave", 0),), (LEAVE,) * exits


class TestIsHost(unittest.TestCase):
    def test_right(self):
        for host in (HOST, ((0,) * 12, (TOP,) * 112), ((TOP,) * 12, (0,) * 112)):
            self.assertIs(is_host(host), True)

    def test_wrong(self):
        for value in STRANGE + ((), 0, HOST[:1], HOST + ((),), list(HOST), HOST[::-1]):
            self.assertIs(is_host(value), False)
        for part, many in ((0, 12), (1, 112)):
            for value in STRANGE + (HOST[part][:-1], HOST[part] + (0,), list(HOST[part]), ()):
                self.assertIs(is_host(put(HOST, part, value)), False)
            for at in (0, many - 1):
                for value in STRANGE + (-1, TOP + 1, 10 ** 300, (0,)):
                    self.assertIs(is_host(put(HOST, part, put(HOST[part], at, value))), False)


CELL, BOX, WORD, AHEAD, TABLE, MOST = (0, 11), (0, 111), (0, 65535), (0, 255), (0, 5), (0, 11)
EXIT, WAY = "exit", "way"
ROWS = {
    "set": (CELL, WORD), "move": (CELL, CELL), "take": (CELL, BOX), "keep": (BOX, CELL),
    "byte": (CELL, CELL, AHEAD, WAY), "pair": (CELL, CELL, AHEAD, WAY), "cell": (CELL, CELL, TABLE, WAY),
    "find": (CELL, CELL, TABLE, WAY), "value": (CELL, CELL, TABLE, WAY), "write": (CELL, AHEAD, CELL, WAY),
    "fill": (CELL, TABLE, CELL, WAY), "change": (CELL, TABLE, CELL, WAY), "grow": (CELL, TABLE, WAY),
    "most": (MOST, EXIT), "leave": (EXIT,), **{op: (CELL, CELL, CELL) for op in OPS},
}


def ends(field):
    """The values at the ends of a field, and those that can't stand there, three exits being there."""
    if field == EXIT:
        return (0, 2), (-1, 3, None)
    if field == WAY:
        return (0, 2, None), (-1, 3)
    return field, (field[0] - 1, field[1] + 1, None)


class TestIsTranslation(unittest.TestCase):
    def yes(self, *values):
        for value in values:
            with self.subTest(value=value):
                self.assertIs(is_translation(value), True)

    def no(self, *values):
        for value in values:
            with self.subTest(value=value):
                self.assertIs(is_translation(value), False)

    def test_whole(self):
        fine = translation(exits=1)
        self.yes(fine)
        self.no(*STRANGE, (), 0, fine[:1], fine + ((),), list(fine), (fine,), fine[::-1])
        for at in (0, 1):
            self.no(*(put(fine, at, value) for value in STRANGE + ((), list(fine[at]), 0)))

    def test_how_many(self):
        row = ("set", 0, 0)
        self.yes(translation(*(row,) * 1599), translation(exits=100))
        self.no(translation(*(row,) * 1600), translation(exits=101), translation(exits=0))

    def test_each_row(self):
        for head, fields in ROWS.items():
            row = (head,) + tuple(ends(field)[0][0] for field in fields)
            self.yes(translation(row, exits=3))
            self.no(translation(row[:-1], exits=3), translation(row + (0,), exits=3), translation(list(row), exits=3))
            self.no(translation((head.upper(),) + row[1:], exits=3), translation(((head,),) + row[1:], exits=3))
            for at, field in enumerate(fields):
                right, wrong = ends(field)
                self.yes(*(translation(put(row, at + 1, value), exits=3) for value in right))
                strange = tuple(value for value in STRANGE if value is not None)
                self.no(*(translation(put(row, at + 1, value), exits=3) for value in wrong + strange + (10 ** 30, (0,))))

    def test_what_is_no_row(self):
        for value in STRANGE + ((), 0, (0,), ("jump", 0), ("answer", 0), ("count", 0, 0), ("addn", 0, 0), ("set",), ("one", "low", 0)):
            self.no(translation(value), translation(("set", 0, 0), value, ("set", 0, 0)))

    def test_the_last_row(self):
        for row in (("set", 0, 0), ("most", 0, 0), ("byte", 0, 0, 0, 0), ("skip", 0, 1), ("skip", 0, 0)):
            self.no(((row,), (LEAVE,)), ((("leave", 0), row), (LEAVE,)))
        self.yes(((("leave", 0), ("leave", 0)), (LEAVE,)), ((("leave", 1),), (LEAVE, LEAVE)))
        self.no(((("leave", 1),), (LEAVE,)))

    def test_skips(self):
        def skipping(n, behind):
            return translation(("skip", 11, n), *(("set", 0, 0),) * (behind - 1))

        for behind in (2, 3, 9):
            self.yes(*(skipping(n, behind) for n in range(1, behind)))
            self.no(*(skipping(n, behind) for n in (-1, 0, behind, behind + 1, 10 ** 30, None, True, "1")))
        self.no(skipping(1, 1))
        ahead = (("set", 0, 0),) * 5
        self.yes(translation(*ahead, ("skip", 0, 2), ("set", 0, 0), ("set", 0, 0)))
        self.no(translation(*ahead, ("skip", 0, 3), ("set", 0, 0), ("set", 0, 0)), translation(*ahead, ("skip", 0, 1)))
        for cell in (-1, 12, None, True):
            self.no(translation(("skip", cell, 1), ("set", 0, 0)))
        self.no(translation(("skip", 0, 1, 0), ("set", 0, 0)), translation(("skip", 0), ("set", 0, 0)))
        skip = ("skip", 0, 1)
        self.yes(translation(skip, skip, skip, skip, ("set", 0, 0)))
        self.no(translation(skip, skip, skip, skip, skip, ("set", 0, 0)))

    def check_exit(self, is_good, *exits):
        for told in exits:
            with self.subTest(told=told):
                self.assertIs(is_translation(((("leave", 0),), (told,))), is_good)
                self.assertIs(is_translation(((("leave", 0),), (LEAVE, told))), is_good)

    def test_exits(self):
        self.check_exit(True, LEAVE, put(LEAVE, 0, 12), put(LEAVE, 1, "fault"), put(LEAVE, 1, "most"), put(LEAVE, 2, 120))
        self.check_exit(False, LEAVE[:6], LEAVE + (None,), list(LEAVE), (), put(LEAVE, 0, 13), put(LEAVE, 0, -1), put(LEAVE, 2, 121),
                        put(LEAVE, 2, -1), put(LEAVE, 1, "done"), put(LEAVE, 1, "ends"))
        self.check_exit(False, *STRANGE)
        for at in range(7):
            strange = tuple(value for value in STRANGE if at != 3 or value is not None)
            self.check_exit(False, *(put(LEAVE, at, value) for value in strange + ((), [0], (None,) * 7, (None,) * 17)))
        for at, many in ((4, 8), (5, 16), (6, 4)):
            self.check_exit(False, *(put(LEAVE, at, value) for value in ((None,) * (many - 1), (None,) * (many + 1), [None] * many)))

    def test_spots(self):
        right = (None, ("cell", 0), ("cell", 11), ("box", 0), ("box", 111), ("number", 0), ("number", 65535))
        wrong = (("cell", 12), ("cell", -1), ("box", 112), ("box", -1), ("number", 65536), ("number", -1), ("cell",), ("cell", 0, 0),
                 ("cell", None), ("cell", True), ("box", "0"), ("number", None), ["cell", 0], ("spot", 0), ("got", 0), ("word", 0),
                 ("Cell", 0), (0, "cell"), (("cell",), 0), 0, ())
        for value in right:
            self.check_exit(True, put(LEAVE, 3, value))
            self.check_exit(True, *(put(LEAVE, at, (None,) * (many - 1) + (value,)) for at, many in ((4, 8), (5, 16), (6, 4))))
        for value in wrong + tuple(value for value in STRANGE if value is not None):
            self.check_exit(False, put(LEAVE, 3, value))
            self.check_exit(False, *(put(LEAVE, at, (None,) * (many - 1) + (value,)) for at, many in ((4, 8), (5, 16), (6, 4))))


class TestHostRow(unittest.TestCase):
    def check(self, row, host, cells=None, boxes=None):
        """A row changes one cell or box alone."""
        told_cells, told_boxes = host
        for at, number in (cells or {}).items():
            told_cells = put(told_cells, at, number)
        for at, number in (boxes or {}).items():
            told_boxes = put(told_boxes, at, number)
        self.assertEqual(host_row(row, host), (told_cells, told_boxes), row)
        behind, run, x = run_host(translation(row), host, RUN, 12)
        self.assertEqual((behind, run, x), ((told_cells, told_boxes), RUN, 0))

    def test_carried(self):
        for c in (0, 11):
            self.check(("set", c, 65535), HOST, {c: 65535})
            self.check(("move", c, 5), HOST, {c: 5})
            self.check(("take", c, 111), HOST, {c: 111})
            self.check(("take", c, 0), host_with(boxes=(TOP,)), {c: TOP})
        for k in (0, 29, 111):
            self.check(("keep", k, 7), HOST, None, {k: 7})
            self.check(("keep", k, 0), host_with(TOP), None, {k: TOP})

    def test_reckoned(self):
        for op, one, two, number in (
            ("add", 3, 5, 8), ("add", TOP, 1, 0), ("add", TOP, TOP, TOP - 1), ("add", 65535, 65535, 131070), ("sub", 5, 3, 2),
            ("sub", 3, 5, TOP - 1), ("sub", 0, TOP, 1), ("times", 65535, 40503, 65535 * 40503), ("times", 65536, 65536, 0),
            ("times", TOP, TOP, 1), ("times", TOP, 2, TOP - 1), ("and", 12, 10, 8), ("and", TOP, 65535, 65535), ("or", 12, 10, 14),
            ("or", TOP, 0, TOP), ("xor", 12, 10, 6), ("xor", TOP, TOP, 0), ("left", 1, 31, 2147483648), ("left", 3, 31, 2147483648),
            ("left", 1, 32, 1), ("left", 5, 33, 10), ("left", TOP, 1, TOP - 1), ("left", 1, TOP, 2147483648), ("left", 65535, 15, 65535 << 15),
            ("right", TOP, 31, 1), ("right", 5, 32, 5), ("right", 5, 33, 2), ("right", TOP, TOP, 1), ("right", TOP, 1, TOP // 2),
            ("right", TOP, 0, TOP), ("same", 5, 5, 1), ("same", TOP, TOP, 1), ("same", 5, 6, 0), ("same", 65536, 0, 0),
            ("below", 5, 6, 1), ("below", 6, 6, 0), ("below", TOP, 0, 0), ("below", 0, TOP, 1), ("ones", TOP, TOP, 32), ("ones", 0, TOP, 0),
            ("ones", 65535, 65535, 16), ("ones", 6, 12, 1), ("ones", 2147483649, TOP, 2),
        ):
            with self.subTest(op=op, one=one, two=two):
                self.check((op, 2, 0, 1), host_with(one, two), {2: number})
                self.check((op, 0, 0, 1), host_with(one, two), {0: number})
                self.check((op, 1, 0, 1), host_with(one, two), {1: number})
                if op in ("add", "times", "and", "or", "xor", "same", "ones"):
                    self.check((op, 2, 1, 0), host_with(one, two), {2: number})
        self.check(("sub", 0, 1, 1), host_with(9, 8), {0: 0})
        self.check(("add", 1, 1, 1), host_with(9, 8), {1: 16})

    def test_drawn(self):
        chance = random.Random(39)
        for _ in range(300):
            one, two = (chance.choice((0, 1, 31, 65535, TOP, chance.randint(0, TOP))) for _ in range(2))
            shift = two % 32
            for op, number in (
                ("add", one + two), ("sub", one - two), ("times", one * two), ("left", one * 2 ** shift), ("right", one // 2 ** shift),
                ("and", one & two), ("or", one | two), ("xor", one ^ two), ("same", int(one == two)), ("below", int(one < two)),
                ("ones", bin(one & two).count("1")),
            ):
                self.assertEqual(host_row((op, 3, 0, 1), host_with(one, two))[0][3], number % 2 ** 32)


class TestReaching(unittest.TestCase):
    def both(self, row, host):
        """What a row does that is quick, and one with an exit."""
        quick = run_host(translation(row + (None,)), host, RUN, 12)
        leaving = run_host(translation(row + (1,)), host, RUN, 12)
        return quick, leaving

    def tells(self, row, held, number):
        host = host_with(held)
        told = (put(host[0], 5, number), host[1]), RUN, 0
        self.assertEqual(self.both(row, host), (told, told), (row, held))

    def changes(self, row, cells, **parts):
        host = host_with(*cells)
        names = ("registers", "slots", "counters", "place", "packet", "tables", "clock", "steps", "end", "writable")
        run = RUN
        for name, value in parts.items():
            run = put(run, names.index(name), value)
        self.assertEqual(self.both(row, host), ((host, run, 0), (host, run, 0)), (row, cells))

    def faults(self, row, cells):
        """Nothing is done: a quick reading gives 0."""
        host = host_with(*cells)
        quick, leaving = self.both(row, host)
        read = row[0] in ("byte", "pair", "cell", "find", "value")
        self.assertEqual(quick, (((put(host[0], row[1], 0) if read else host[0]), host[1]), RUN, 0), (row, cells))
        self.assertEqual(leaving, (host, RUN, 1), (row, cells))

    def test_packet(self):
        self.tells(("byte", 5, 0, 2), 0, 7)
        self.tells(("byte", 5, 0, 0), 2, 7)
        self.tells(("pair", 5, 0, 0), 1, 8 * 256 + 7)
        for at, s in ((3, 0), (0, 3), (65535, 1), (65536, 0), (TOP, 1), (TOP, 255), (TOP, 0)):
            self.faults(("byte", 5, 0, s), (at,))
            self.faults(("pair", 5, 0, s), (at,))
            self.faults(("write", 0, s, 1), (at, 5))
        self.faults(("pair", 5, 0, 1), (1,))
        for number, byte in ((0, 0), (255, 255), (256, 0), (65536 + 300, 44), (TOP, 255)):
            self.changes(("write", 0, 1, 1), (1, number), packet=(9, 8, byte))
        self.changes(("write", 0, 0, 0), (2,), packet=(9, 8, 2))

    def test_no_right_to_write(self):
        host, still = host_with(0, 5), put(RUN, 9, 0)
        self.assertEqual(run_host(translation(("write", 0, 0, 1, None)), host, still, 12), (host, still, 0))
        self.assertEqual(run_host(translation(("write", 0, 0, 1, 1)), host, still, 12), (host, still, 1))

    def test_arrays(self):
        for index, word in enumerate((5, 65535, 0)):
            self.tells(("cell", 5, 0, 0), index, word)
        self.tells(("cell", 5, 0, 2), 0, 1)
        for index, t in ((3, 0), (65536, 0), (TOP, 0), (0, 1), (0, 3), (0, 4), (0, 5), (1, 2)):
            self.faults(("cell", 5, 0, t), (index,))
            self.faults(("fill", 0, t, 1), (index, 9))
            self.faults(("grow", 0, t), (index,))
        self.faults(("fill", 0, 2, 1), (0, 9))
        self.faults(("grow", 0, 2), (0,))
        for number, word in ((9, 9), (65535, 65535), (65536, 0), (TOP, 65535), (65536 * 5 + 7, 7)):
            self.changes(("fill", 0, 0, 1), (1, number), tables=put(TABLES, 0, ("array", 1, (5, word, 0))))
        self.changes(("grow", 0, 0), (0,), tables=put(TABLES, 0, ("array", 1, (6, 65535, 0))))
        self.changes(("grow", 3, 0), (9, 9, 9, 2), tables=put(TABLES, 0, ("array", 1, (5, 65535, 1))))
        self.changes(("grow", 0, 0), (1,), tables=put(TABLES, 0, ("array", 1, (5, 0, 0))))

    def test_pairs(self):
        for key, handle in ((2, 1), (7, 2), (0, 0), (20, 0), (65536 + 2, 0), (TOP, 0), (65535, 0)):
            self.tells(("find", 5, 0, 1), key, handle)
            self.tells(("find", 5, 0, 3), key, 0)
        for t in (0, 2, 4, 5):
            self.faults(("find", 5, 0, t), (2,))
        self.tells(("value", 5, 0, 1), 1, 20)
        self.tells(("value", 5, 0, 1), 2, 70)
        for handle, t in ((0, 1), (3, 1), (65537, 1), (TOP, 1), (1, 0), (1, 3), (1, 5)):
            self.faults(("value", 5, 0, t), (handle,))
            self.faults(("change", 0, t, 1), (handle, 9))
        for number, word in ((9, 9), (65536 + 4, 4), (TOP, 65535)):
            self.changes(("change", 0, 1, 1), (2, number), tables=put(TABLES, 1, ("pairs", 1, ((2, 20), (7, word)))))
        fixed = put(RUN, 5, (("pairs", 0, ((2, 20),)),))
        host = host_with(1, 9)
        self.assertEqual(run_host(translation(("change", 0, 0, 1, 1)), host, fixed, 12), (host, fixed, 1))
        self.assertEqual(run_host(translation(("change", 0, 0, 1, None)), host, fixed, 12), (host, fixed, 0))


class TestGoneThrough(unittest.TestCase):
    def test_most(self):
        for n in range(12):
            for most in range(13):
                told = run_host(translation(("set", 0, 1), ("most", n, 1), ("set", 0, 2)), host_with(), RUN, most)
                self.assertEqual(told, (host_with(1 if most <= n else 2), RUN, 1 if most <= n else 0))

    def test_several_rows_most(self):
        rows = translation(("most", 0, 1), ("set", 0, 1), ("most", 2, 2), ("set", 0, 2), ("most", 11, 3), ("set", 0, 3), exits=4)
        for most, x, number in ((0, 1, 77), (1, 2, 1), (2, 2, 1), (3, 3, 2), (11, 3, 2), (12, 0, 3)):
            self.assertEqual(run_host(rows, host_with(), RUN, most), (host_with(number), RUN, x))

    def test_skip(self):
        rows = translation(("skip", 0, 2), ("set", 1, 1), ("set", 2, 2), ("set", 3, 3))
        for number, cells in ((0, (0, 1, 2, 3)), (1, (1, 77, 77, 3)), (65536, (65536, 77, 77, 3)), (TOP, (TOP, 77, 77, 3))):
            self.assertEqual(run_host(rows, host_with(number), RUN, 12), (host_with(*cells), RUN, 0))
        rows = translation(("skip", 0, 2), ("set", 1, 1), ("leave", 1), ("skip", 4, 1), ("set", 2, 2), exits=3)
        self.assertEqual(run_host(rows, host_with(0), RUN, 12), (host_with(0, 1), RUN, 1))
        self.assertEqual(run_host(rows, host_with(1), RUN, 12), (host_with(1), RUN, 0))

    def test_left_in_the_midst(self):
        rows = translation(("set", 0, 0), ("set", 1, 9), ("fill", 0, 0, 1, None), ("write", 0, 0, 1, 1), ("keep", 30, 1),
                           ("cell", 2, 1, 0, 2), ("set", 3, 3), exits=4)
        told = run_host(rows, host_with(), RUN, 12)
        run = put(put(RUN, 4, (9, 8, 7)), 5, put(TABLES, 0, ("array", 1, (9, 65535, 0))))
        host = host_with(0, 9)
        self.assertEqual(told, ((host[0], put(host[1], 30, 9)), run, 2))

    def test_all_else_of_the_run_stays(self):
        run = put(put(put(RUN, 8, ("answer", 5)), 3, 120), 7, 10 ** 30)
        self.assertEqual(run_host(translation(), HOST, run, 0), (HOST, run, 0))

    def test_the_longest(self):
        rows = tuple(("add", 0, 0, 1) for _ in range(1599))
        self.assertEqual(run_host(translation(*rows), host_with(0, 1), RUN, 12)[0][0][0], 1599)
