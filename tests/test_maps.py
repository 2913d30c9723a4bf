"""Points 38, 41: where a run lies in the host, when it is entered and when it is left."""

import random
import unittest

from suresieves.hosts import is_host, run_host
from suresieves.maps import entered, left, passed
from tests import drawn
from tests.test_hosts import TABLES, TOP, host_with, translation
from tests.values import HOST, START, put, run_with

RUN = run_with(registers=tuple(range(1, 9)), slots=tuple(range(20, 36)), counters=(50, 60, 70, 100), packet=(1,) * 9, tables=TABLES,
               clock=4444, steps=7, place=33)
EXIT = (5, "end", 44, None) + START


class TestEntered(unittest.TestCase):
    def test_by_hand(self):
        cells, boxes = entered(RUN)
        self.assertEqual(cells, (0,) * 12)
        self.assertEqual(boxes, tuple(range(1, 9)) + tuple(range(20, 36)) + (50, 60, 70, 100, 9, 4444) + (0,) * 82)
        self.assertEqual(entered(run_with(packet=(0,) * 256))[1][28], 256)

    def test_drawn(self):
        chance = random.Random(38)
        for _ in range(100):
            run = drawn.midway(chance)
            host = entered(run)
            self.assertIs(is_host(host), True)
            self.assertEqual(host[1][:8] + host[1][8:24] + host[1][24:28], run[0] + run[1] + run[2])
            self.assertEqual(host[1][28:30], (len(run[4]), run[6]))


class TestLeft(unittest.TestCase):
    def check(self, told, host, **parts):
        names = ("registers", "slots", "counters", "place", "packet", "tables", "clock", "steps", "end", "writable")
        run = put(put(RUN, 3, told[2]), 7, 7 + told[0])
        for name, value in parts.items():
            run = put(run, names.index(name), value)
        for x in (0, 1):
            exits = (EXIT, told)[::1 if x else -1]
            self.assertEqual(left(RUN, ((("leave", 0),), exits), x, host), run)

    def test_what_stood_there(self):
        self.check(EXIT, HOST)
        self.check(put(put(EXIT, 0, 0), 2, 0), HOST)
        self.check(put(put(EXIT, 0, 12), 2, 120), HOST)
        self.check(put(EXIT, 1, "most"), HOST)

    def test_spots(self):
        host = host_with(5, 65536, TOP, boxes=(0,) * 111 + (65543,))
        for spot, word, count in (
            (("cell", 0), 5, 5), (("cell", 1), 0, 65536 % 101), (("cell", 2), 65535, TOP % 101), (("cell", 11), 77, 77),
            (("box", 111), 7, 65543 % 101), (("box", 0), 0, 0), (("number", 65535), 65535, 65535 % 101), (("number", 0), 0, 0),
            (("number", 100), 100, 100), (("number", 101), 101, 0), (("number", 102), 102, 1),
        ):
            for at in (0, 7):
                self.check(put(EXIT, 4, put(START[0], at, spot)), host, registers=put(RUN[0], at, word))
            for at in (0, 15):
                self.check(put(EXIT, 5, put(START[1], at, spot)), host, slots=put(RUN[1], at, word))
            for at in (0, 3):
                self.check(put(EXIT, 6, put(START[2], at, spot)), host, counters=put(RUN[2], at, count))
            self.check(put(EXIT, 3, spot), host, end=("answer", word))
            everything = EXIT[:3] + (spot, (spot,) * 8, (spot,) * 16, (spot,) * 4)
            self.check(everything, host, registers=(word,) * 8, slots=(word,) * 16, counters=(count,) * 4, end=("answer", word))

    def test_end_as_it_was(self):
        for end in (("answer", 3), ("fault", "place")):
            run = put(RUN, 8, end)
            self.assertEqual(left(run, ((("leave", 0),), (EXIT,)), 0, HOST)[8], end)
            told = put(EXIT, 3, ("cell", 1))
            self.assertEqual(left(run, ((("leave", 0),), (told,)), 0, HOST)[8], ("answer", 1))

    def test_what_was_changed(self):
        changed = put(put(RUN, 4, (7,)), 5, TABLES[:1])
        self.assertEqual(left(changed, ((("leave", 0),), (EXIT,)), 0, HOST), put(put(changed, 3, 44), 7, 12))


class TestPassed(unittest.TestCase):
    def test_by_hand(self):
        exits = (
            put(put(EXIT, 4, put(START[0], 2, ("cell", 3))), 6, put(START[2], 1, ("box", 30))), (0, "most", 33, None) + START,
            (1, "fault", 34, None) + START,
        )
        rows = (("most", 0, 1), ("take", 0, 1), ("take", 1, 24), ("add", 3, 0, 1), ("keep", 30, 3), ("set", 4, 1),
                ("grow", 4, 0, 2), ("leave", 0))
        grown = put(TABLES, 0, ("array", 1, (5, 0, 0)))
        run = put(put(put(put(put(RUN, 0, put(RUN[0], 2, 52)), 2, put(RUN[2], 1, 52)), 3, 44), 5, grown), 7, 12)
        self.assertEqual(passed((rows, exits), RUN, 12), (0, run))
        self.assertEqual(passed((rows, exits), RUN, 1), (0, run))
        self.assertEqual(passed((rows, exits), RUN, 0), (1, RUN))
        bare = put(RUN, 5, ())
        self.assertEqual(passed((rows, exits), bare, 9), (2, put(put(bare, 3, 34), 7, 8)))

    def test_as_run_host_and_left_tell(self):
        chance = random.Random(40)
        for _ in range(150):
            run = drawn.midway(chance)
            rows = [("take", chance.randrange(12), chance.randrange(112)) for _ in range(4)]
            rows += [chance.choice((("grow", 0, 0, 1), ("write", 1, 0, 2, 1), ("cell", 5, 3, 2, 1), ("most", chance.randrange(12), 1)))]
            rows += [("skip", 5, 1), ("keep", 3, 4)]
            spots = tuple(chance.choice((None, ("cell", 5), ("box", 3))) for _ in range(8))
            told = (translation(*rows)[0], (put(EXIT, 4, spots), EXIT))
            most = chance.randrange(13)
            host, changed, x = run_host(told, entered(run), run, most)
            self.assertEqual(passed(told, run, most), (x, left(changed, told, x, host)))
