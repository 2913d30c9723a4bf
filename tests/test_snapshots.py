"""Point 58: snapshots of runs."""

import random
import unittest
from itertools import groupby

from suresieves.errors import InvalidRun, InvalidSnapshot
from suresieves.runs import FAULTS, begun, is_run
from suresieves.snapshots import read_snapshot, write_snapshot
from tests import drawn
from tests.values import RUN, STRANGE, put

ENDS = (None, ("answer", 0), ("answer", 65535)) + tuple(("fault", kind) for kind in FAULTS)
LINES = write_snapshot(RUN).split("\n")


def row(head, numbers):
    """A line of a word and a row, in a second way."""
    groups = [(number, len(list(same))) for number, same in groupby(numbers)]
    return " ".join([head] + [f"{many}*{number}" if many > 1 else f"{number}" for number, many in groups])


def snapshot(run):
    """A snapshot in a second way."""
    registers, slots, counters, place, packet, tables, clock, steps, end, writable = run
    lines = [f"steps {steps}", f"place {place}", " ".join(["end"] + [str(part) for part in end or ("none",)]),
             f"clock {clock}", f"writable {writable}", row("registers", registers), row("slots", slots),
             row("counters", counters), row("packet", packet)]
    for sort, may, content in tables:
        lines.append(row(f"{sort} {may}:", content if sort == "array" else [part for pair in content for part in pair]))
    return "\n".join(lines)


def repeating(chance, many, most):
    """So many numbers, neighbours often being the same."""
    numbers = []
    while len(numbers) < many:
        numbers += [chance.choice((0, 1, most, chance.randint(0, most)))] * chance.choice((1, 1, 2, 3, many))
    return tuple(numbers[:many])


def drawn_run(chance):
    keys = sorted(chance.sample(range(20), chance.choice((0, 1, 2, 16))))
    tables = []
    for _ in range(chance.randint(0, 6)):
        if chance.random() < 0.5:
            tables.append(("array", chance.randint(0, 1), repeating(chance, chance.choice((1, 2, 32)), 65535)))
        else:
            tables.append(("pairs", chance.randint(0, 1), tuple((key, chance.choice((key, key + 1, 9))) for key in keys)))
    return (
        repeating(chance, 8, 65535), repeating(chance, 16, 65535), repeating(chance, 4, 100), chance.choice((0, 120, 7)),
        repeating(chance, chance.choice((0, 1, 14, 256)), 255), tuple(tables), chance.choice((0, 65535, 12)),
        chance.choice((0, 1, 19999, 10 ** chance.randint(5, 390) + 7)), chance.choice(ENDS), chance.randint(0, 1),
    )


class TestWritten(unittest.TestCase):
    def test_by_hand(self):
        run = ((1, 1, 1, 2, 2, 1, 65535, 0), (0,) * 15 + (9,), (100, 100, 0, 1), 120, (255, 255, 0),
               (("pairs", 0, ()), ("pairs", 1, ((4, 4), (5, 5), (6, 5))), ("array", 1, (7,))), 65535, 12, ("fault", "handle"), 1)
        self.assertTrue(is_run(run))
        self.assertEqual(write_snapshot(run), (
            "steps 12\nplace 120\nend fault handle\nclock 65535\nwritable 1\nregisters 3*1 2*2 1 65535 0\nslots 15*0 9\n"
            "counters 2*100 0 1\npacket 2*255 0\npairs 0:\npairs 1: 2*4 2*5 6 5\narray 1: 7"))
        self.assertEqual(read_snapshot(write_snapshot(run)), run)

    def test_an_empty_packet_leaves_no_blank(self):
        told = write_snapshot(begun((), (), 0, 0))
        self.assertEqual(told.split("\n")[8:], ["packet"])
        self.assertEqual(read_snapshot(told), begun((), (), 0, 0))

    def test_each_end(self):
        for end in ENDS:
            run = put(RUN, 8, end)
            self.assertIn("end none" if end is None else f"end {end[0]} {end[1]}", write_snapshot(run).split("\n"))
            self.assertEqual(read_snapshot(write_snapshot(run)), run)

    def test_drawn(self):
        chance = random.Random(62)
        for number in range(300):
            run = drawn_run(chance) if number % 3 else drawn.midway(chance)
            self.assertTrue(is_run(run))
            told = write_snapshot(run)
            self.assertEqual(told, snapshot(run))
            self.assertEqual(read_snapshot(told), run)
            self.assertEqual(read_snapshot(writing=write_snapshot(run=run)), run)

    def test_no_run(self):
        for index in range(10):
            with self.assertRaises(InvalidRun) as caught:
                write_snapshot(put(RUN, index, "x"))
            self.assertEqual(caught.exception.index, index)


class TestRefused(unittest.TestCase):
    def refused(self, writing, line):
        with self.subTest(writing=writing):
            with self.assertRaises(InvalidSnapshot) as caught:
                read_snapshot(writing)
            self.assertEqual(vars(caught.exception), {"line": line})

    def refused_line(self, number, text):
        """A line that is none such, whatever stands behind it."""
        lines = LINES[:number] + [text] + LINES[number + 1:]
        self.refused("\n".join(lines), number)
        self.refused("\n".join(lines[:number + 1]), number)
        self.refused("\n".join(lines[:number + 1] + ["x"]), number)

    def test_no_text(self):
        for value in STRANGE + ((), 0):
            if not isinstance(value, str):
                self.refused(value, None)

    def test_lines_missing(self):
        for many in range(1, 9):
            self.refused("\n".join(LINES[:many]), many)
        self.refused("", 0)
        for number in range(9):
            self.refused("\n".join(LINES[:number] + LINES[number + 1:]), number)
        self.assertEqual(read_snapshot("\n".join(LINES[:9])), put(RUN, 5, ()))

    def test_lines_too_many(self):
        self.refused("\n".join(LINES + [""]), len(LINES))
        self.refused("\n" + "\n".join(LINES), 0)
        self.refused("\n".join(LINES[:3] + LINES[2:]), 3)
        self.refused("\n".join(LINES + ["packet"]), len(LINES))
        six = LINES[:9] + ["array 0: 1"] * 6
        self.assertEqual(len(read_snapshot("\n".join(six))[5]), 6)
        self.refused("\n".join(six + ["array 0: 1"]), 15)

    def test_numbers(self):
        for number, head, least, most in ((0, "steps", 0, None), (1, "place", 0, 120), (3, "clock", 0, 65535), (4, "writable", 0, 1)):
            for text in ("", " ", "x", "00", "01", "+1", "-1", "1.0", "1 ", " 1", "0x1", "1 1", "1*1", "one", "1_0", "1\t", "None"):
                self.refused_line(number, f"{head} {text}")
            if most is not None:
                self.refused_line(number, f"{head} {most + 1}")
                self.refused_line(number, f"{head} 1{'0' * 30}")
            self.refused_line(number, head)
            self.refused_line(number, f"{head}  1")
            self.refused_line(number, f" {head} 1")
            self.refused_line(number, f"{head.upper()} 1")
            self.refused_line(number, f"{head}:1")

    def test_end(self):
        for text in ("", "none ", " none", "None", "answer", "answer ", "answer 65536", "answer 01", "answer  1", "answer 1 ", "answer -1",
                     "fault", "fault ", "fault none", "fault Place", "fault place ", "fault  place", "place", "answer place", "fault 1"):
            self.refused_line(2, f"end {text}")
        self.refused_line(2, "end")

    def test_rows(self):
        for number, head, many, most in ((5, "registers", 8, 65535), (6, "slots", 16, 65535), (7, "counters", 4, 100)):
            full = " ".join(str(k) for k in range(many))
            for text in (
                full[:-2], full + " 3", " " + full, full + " ", full.replace(" ", "  ", 1), full.replace("1", "01", 1), f"{many + 1}*0", f"{many - 1}*0",
                f"0*5 {many}*0", f"1*1 {many - 1}*0", f"0 0 {many - 2}*1", f"2*0 {many - 2}*0", f"0 {many - 1}*0", f"0{many}*0", f"{many}*00",
                f"{many} *0", f"{many}* 0", f"{many}*", f"*{many}", f"{many}*0*0", f"{many}*{most + 1}", f"{many}*-1", "", " ", f"{many}x0", f"99999*0",
                f"{10 ** 30}*0",
            ):
                self.refused_line(number, f"{head} {text}")
            self.refused_line(number, head)
            self.assertIsNotNone(read_snapshot("\n".join(LINES[:number] + [f"{head} {full}"] + LINES[number + 1:])))

    def test_packets(self):
        for text in ("256", "257*0", "256*256", "", " ", "1 1", "2*1 1", "1*1", "01", "1  2", "1 ", "256*0 1"):
            self.refused_line(8, f"packet {text}")
        self.refused_line(8, "packet:")
        self.assertEqual(read_snapshot("\n".join(LINES[:8] + ["packet 256*0"]))[4], (0,) * 256)

    def test_tables(self):
        for text in (
            "array 0:", "array 0: ", "array 0 1", "array 2: 1", "array 00: 1", "array: 1", "array 1 : 1", "array 1:1", "array 1:  1", "array 1: 1 ",
            "array 1: 65536", "array 1: 33*0", "array 1: 1 1", " array 1: 1", "array  1: 1", "pairs 1: 1", "pairs 1: 1 2 3", "pairs 1: 2*1 1 2",
            "pairs 1: 5 0 4 1", "pairs 1: 5 0 5 1", "pairs 1: ", "pairs 1: 2*65536", "pairs : 1 2", "table 1: 1", "", "pairs 1: 1=2",
            "pairs 1: " + " ".join(str(k) for k in range(34)), "Array 1: 1", "array 1; 1",
        ):
            self.refused_line(9, text)
            self.refused("\n".join(LINES + [text]), len(LINES))
        for text, table in (("pairs 1:", ("pairs", 1, ())), ("pairs 0: 2*1 2*2", ("pairs", 0, ((1, 1), (2, 2)))),
                            ("pairs 1: 0 3*1", ("pairs", 1, ((0, 1), (1, 1)))), ("array 1: 32*7", ("array", 1, (7,) * 32)),
                            ("pairs 0: " + " ".join(str(k) for k in range(32)), ("pairs", 0, tuple((k, k + 1) for k in range(0, 32, 2))))):
            self.assertEqual(read_snapshot("\n".join(LINES[:9] + [text]))[5], (table,))

    def test_parted_by_nothing_else(self):
        for mark in ("\r\n", "\r", " ", ";", "\n\n", "\x0b", "\u2028", "\x85"):
            with self.assertRaises(InvalidSnapshot):
                read_snapshot(mark.join(LINES))

    def test_any_spoilt_sign(self):
        """Whatever is read is the snapshot of what is told."""
        chance, told = random.Random(63), 0
        for _ in range(1500):
            text = write_snapshot(drawn_run(chance) if chance.random() < 0.2 else RUN)
            at, sign = chance.randrange(len(text) + 1), chance.choice(("", "0", "1", " ", "*", "\n", ":", "x"))
            spoilt = text[:at] + sign + text[at + chance.choice((0, 1)):]
            try:
                run = read_snapshot(spoilt)
            except InvalidSnapshot as refused:
                self.assertGreaterEqual(refused.line, text[:at].count("\n"))
            else:
                told += spoilt != text
                self.assertTrue(is_run(run))
                self.assertEqual(write_snapshot(run), spoilt)
        self.assertGreater(told, 50)

    def test_great_steps_are_read(self):
        for figures in (400, 5000):
            run = read_snapshot("\n".join(["steps 1" + "0" * figures] + LINES[1:]))
            self.assertEqual(run, put(RUN, 7, 10 ** figures))
