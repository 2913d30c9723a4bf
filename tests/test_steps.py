"""Points 8, 10 and 11: what each row does, and how it faults."""

import random
import unittest

from suresieves.runs import fault_of, one_step
from tests.values import RUN, registers, run_with
from tests.test_rows import FORMS

SLOTS = tuple(range(100, 116))


def after(row, **parts):
    """The run behind one step by a sieve of this row alone, at place 0."""
    return one_step((row,), run_with(**parts))


class TestDone(unittest.TestCase):
    def check(self, row, parts, changes, place=1):
        """A row is done: only what is told changes, STEPS grow, and it goes to a place."""
        run = run_with(**parts)
        told = {"place": place, "steps": run[7] + 1, **changes}
        self.assertIsNone(fault_of((row,), run))
        self.assertEqual(one_step((row,), run), run_with(**{**parts, **told}))

    def check_word(self, row, parts, word):
        """A row sets register 2, which holds 9 ahead of it if nothing else is told."""
        held = parts.get("registers", registers(0, 0, 9))
        told = held[:2] + (word,) + held[3:]
        self.check(row, {**parts, "registers": held}, {"registers": told})

    def test_set_and_move(self):
        for word in (0, 1, 65535):
            self.check_word(("set", 2, word), {}, word)
            self.check_word(("move", 2, 5), {"registers": (1, 2, 3, 4, 5, word, 7, 8)}, word)
        self.check_word(("move", 2, 2), {"registers": (1, 2, 3, 4, 5, 6, 7, 8)}, 3)

    def test_length(self):
        for many in (0, 1, 255, 256):
            self.check_word(("length", 2), {"packet": (7,) * many}, many)

    def test_take_and_keep(self):
        for k in (0, 7, 15):
            self.check_word(("take", 2, k), {"slots": SLOTS}, 100 + k)
            kept = SLOTS[:k] + (65535,) + SLOTS[k + 1:]
            self.check(("keep", 2, k), {"slots": SLOTS, "registers": registers(0, 0, 65535)}, {"slots": kept})

    def test_reckoned(self):
        for op, one, two, word in (
            ("add", 3, 4, 7), ("add", 65535, 1, 0), ("add", 65535, 65535, 65534), ("sub", 3, 4, 65535),
            ("sub", 4, 3, 1), ("sub", 0, 65535, 1), ("and", 12, 10, 8), ("or", 12, 10, 14), ("xor", 12, 10, 6),
            ("left", 1, 15, 32768), ("left", 3, 15, 32768), ("left", 5, 16, 5), ("left", 5, 17, 10),
            ("left", 1, 65535, 32768), ("right", 65535, 15, 1), ("right", 5, 16, 5), ("right", 5, 65521, 2),
            ("right", 65535, 1, 32767), ("left", 65535, 0, 65535),
        ):
            with self.subTest(op=op, one=one, two=two):
                self.check_word((op, 2, 3), {"registers": registers(0, 0, one, two)}, word)
                if op not in ("sub", "left", "right"):
                    self.check_word((op + "n", 2, two), {"registers": registers(0, 0, one)}, word)
                if op in ("left", "right") and two < 16:
                    self.check_word((op + "n", 2, two), {"registers": registers(0, 0, one)}, word)

    def test_reckoned_with_itself(self):
        for op, word in (("add", 65534), ("sub", 0), ("xor", 0), ("and", 65535), ("or", 65535), ("left", 32768)):
            self.check_word((op, 2, 2), {"registers": registers(0, 0, 65535)}, word)

    def test_bytes(self):
        packet = tuple(range(200, 256))
        for row, held, word in (
            (("byte", 2, 1, 0), 0, 200), (("byte", 2, 1, 55), 0, 255), (("byte", 2, 1, 5), 50, 255),
            (("pair", 2, 1, 0), 0, 200 * 256 + 201), (("pair", 2, 1, 54), 0, 254 * 256 + 255),
            (("pair", 2, 1, 4), 50, 254 * 256 + 255),
        ):
            self.check_word(row, {"packet": packet, "registers": registers(0, held, 9)}, word)
        far = {"packet": (0,) * 255 + (77,), "registers": registers(0, 1, 9)}
        self.check_word(("byte", 2, 1, 254), far, 77)

    def test_write(self):
        for at, s, word, byte in ((0, 0, 65535, 255), (1, 2, 256, 0), (3, 0, 511, 255), (2, 1, 300, 44)):
            packet = (9, 8, 7, 6)
            changed = packet[:at + s] + (byte,) + packet[at + s + 1:]
            parts = {"packet": packet, "registers": registers(word, at)}
            self.check(("write", 0, 1, s), parts, {"packet": changed})

    def test_cells(self):
        tables = (("pairs", 0, ()), ("array", 1, (5, 65535, 7)))
        self.check_word(("cell", 2, 1, 3), {"tables": tables, "registers": registers(0, 0, 9, 2)}, 7)
        readable = (("array", 0, (4,)),)
        self.check_word(("cell", 2, 0, 3), {"tables": readable}, 4)
        for row, held, cells in (
            (("fill", 0, 1, 1), (8, 0), (8, 65535, 7)), (("fill", 0, 1, 1), (65535, 2), (5, 65535, 65535)),
            (("fill", 1, 1, 1), (0, 1), (5, 1, 7)), (("count", 1, 1), (0, 0), (6, 65535, 7)),
            (("count", 1, 1), (0, 1), (5, 0, 7)),
        ):
            changed = (tables[0], ("array", 1, cells))
            self.check(row, {"tables": tables, "registers": registers(*held)}, {"tables": changed})

    def test_pairs(self):
        tables = (("pairs", 0, ((0, 5), (7, 70), (65535, 1))), ("pairs", 1, ((3, 30), (4, 40))))
        for key, word in ((0, 1), (7, 2), (65535, 3), (1, 0), (70, 0), (5, 0)):
            self.check_word(("find", 2, 0, 3), {"tables": tables, "registers": registers(0, 0, 9, key)}, word)
        self.check_word(("find", 2, 0, 3), {"tables": (("pairs", 0, ()),)}, 0)
        for handle, word in ((1, 5), (2, 70), (3, 1)):
            self.check_word(("value", 2, 0, 3), {"tables": tables, "registers": registers(0, 0, 9, handle)}, word)
        for handle, pairs in ((1, ((3, 65535), (4, 40))), (2, ((3, 30), (4, 65535)))):
            parts = {"tables": tables, "registers": registers(65535, handle)}
            self.check(("change", 0, 1, 1), parts, {"tables": (tables[0], ("pairs", 1, pairs))})

    def test_ask(self):
        for h, word, told in (
            ("ones", 0, 0), ("ones", 65535, 16), ("ones", 32769, 2), ("mix", 0, 1), ("mix", 1, 40504),
            ("mix", 2, (81006 + 1) % 65536), ("mix", 65535, (65535 * 40503 + 1) % 65536), ("clock", 3, 4321),
        ):
            self.check_word(("ask", 2, h, 3), {"registers": registers(0, 0, 9, word), "clock": 4321}, told)

    def test_going_elsewhere(self):
        self.check(("jump", 0), {}, {}, 0)
        self.check(("jump", 119), {}, {}, 119)
        for relation, one, two, holds in (
            ("same", 5, 5, True), ("same", 5, 6, False), ("other", 5, 6, True), ("other", 5, 5, False),
            ("below", 5, 6, True), ("below", 5, 5, False), ("below", 65535, 0, False), ("from", 5, 5, True),
            ("from", 65535, 0, True), ("from", 4, 5, False), ("bit", 6, 12, True), ("bit", 6, 9, False),
            ("bit", 0, 65535, False), ("nobit", 6, 9, True), ("nobit", 6, 12, False), ("nobit", 0, 0, True),
        ):
            place = 50 if holds else 1
            with self.subTest(relation=relation, one=one, two=two):
                self.check(("when", relation, 4, 6, 50), {"registers": (0, 0, 0, 0, one, 0, two, 0)}, {}, place)
                self.check(("whenn", relation, 4, two, 50), {"registers": (0, 0, 0, 0, one, 0, 0, 0)}, {}, place)

    def test_counters(self):
        self.check(("begin", 2), {"counters": (1, 2, 100, 4)}, {"counters": (1, 2, 0, 4)})
        self.check(("again", 3, 5, 0), {"counters": (1, 2, 3, 4)}, {"counters": (1, 2, 3, 5)}, 0)
        self.check(("again", 3, 4, 0), {"counters": (1, 2, 3, 4)}, {})
        self.check(("again", 3, 3, 0), {"counters": (1, 2, 3, 4)}, {})
        self.check(("again", 0, 100, 7), {"counters": (99, 0, 0, 0)}, {"counters": (100, 0, 0, 0)}, 7)
        self.check(("again", 0, 100, 7), {"counters": (100, 0, 0, 0)}, {})

    def test_answer(self):
        for word in (0, 65535):
            self.check(("answer", 3), {"registers": registers(0, 0, 0, word)}, {"end": ("answer", word)}, 0)

    def test_place_behind(self):
        run = run_with(place=119)
        self.assertEqual(one_step((("set", 0, 0),) * 120, run)[3], 120)


class TestFaults(unittest.TestCase):
    def check(self, kind, row, **parts):
        """A row faults: only STEPS and END change."""
        run = run_with(**parts)
        self.assertEqual(fault_of((row,), run), kind)
        self.assertEqual(one_step((row,), run), run_with(**{**parts, "steps": run[7] + 1, "end": ("fault", kind)}))

    def test_place(self):
        for place in (1, 2, 119, 120):
            self.check("place", ("write", 0, 0, 0), place=place, writable=0, packet=())
        run = run_with(place=120)
        self.assertEqual(one_step((("set", 0, 0),) * 120, run)[8], ("fault", "place"))

    def test_table(self):
        arrays, pairs = (("array", 1, (1, 2)),), (("pairs", 1, ((1, 2),)),)
        held = registers(1, 1)
        for head in ("cell", "fill", "find", "value", "change"):
            wrong = pairs if head in ("cell", "fill") else arrays
            self.check("table", (head, 0, 0, 1), tables=wrong, registers=held)
            self.check("table", (head, 0, 0, 1), tables=(), registers=held)
            self.check("table", (head, 0, 1, 1), tables=arrays if wrong == pairs else pairs, registers=held)
            self.check("table", (head, 0, 5, 1), tables=(arrays + pairs) * 2, registers=held)
        self.check("table", ("count", 0, 1), tables=pairs, registers=held)
        self.check("table", ("count", 1, 1), tables=arrays, registers=held)

    def test_no_right(self):
        arrays, pairs = (("array", 0, (1, 2)),), (("pairs", 0, ((1, 2),)),)
        for index in (0, 1, 2, 65535):
            self.check("table", ("fill", 0, 0, 1), tables=arrays, registers=registers(0, index))
            self.check("table", ("count", 0, 1), tables=arrays, registers=registers(0, index))
            self.check("table", ("change", 0, 0, 1), tables=pairs, registers=registers(0, index))

    def test_index(self):
        for head in ("cell", "fill"):
            for index in (2, 3, 65535):
                self.check("index", (head, 0, 0, 1), tables=(("array", 1, (1, 2)),), registers=registers(0, index))
        self.check("index", ("count", 0, 1), tables=(("array", 1, (1, 2)),), registers=registers(0, 2))
        self.check("index", ("cell", 0, 0, 1), tables=(("array", 0, (1, 2)),), registers=registers(0, 2))

    def test_handle(self):
        for head in ("value", "change"):
            for handle in (0, 3, 65535):
                tables = (("pairs", 1, ((1, 2), (3, 4))),)
                self.check("handle", (head, 0, 0, 1), tables=tables, registers=registers(0, handle))
            self.check("handle", (head, 0, 0, 1), tables=(("pairs", 1, ()),), registers=registers(0, 1))
        self.check("handle", ("value", 0, 0, 1), tables=(("pairs", 0, ()),))

    def test_packet(self):
        for head, size, at, s in (
            ("byte", 4, 4, 0), ("byte", 4, 0, 4), ("byte", 4, 2, 2), ("byte", 0, 0, 0), ("byte", 256, 1, 255),
            ("byte", 4, 65535, 0), ("byte", 4, 65535, 1), ("byte", 4, 65535, 255), ("byte", 4, 65534, 3),
            ("pair", 4, 3, 0), ("pair", 4, 0, 3), ("pair", 1, 0, 0), ("pair", 0, 0, 0), ("pair", 256, 0, 255),
            ("pair", 4, 65535, 0), ("pair", 4, 65534, 1), ("pair", 4, 65535, 255),
            ("write", 4, 4, 0), ("write", 0, 0, 0), ("write", 4, 65535, 1), ("write", 256, 1, 255),
        ):
            with self.subTest(head=head, size=size, at=at, s=s):
                self.check("packet", (head, 0, 1, s), packet=(0,) * size, registers=registers(0, at))

    def test_grant(self):
        self.check("grant", ("write", 0, 1, 3), writable=0, packet=(1, 2, 3, 4))

    def test_several_kinds(self):
        self.check("packet", ("write", 0, 1, 4), writable=0, packet=(1, 2, 3, 4))
        self.check("place", ("fill", 0, 0, 1), place=1, tables=())
        self.check("table", ("fill", 0, 0, 1), tables=(("array", 0, (1,)),), registers=registers(0, 9))
        self.check("table", ("change", 0, 0, 1), tables=(("pairs", 0, ()),))
        self.check("table", ("cell", 0, 0, 1), tables=(("pairs", 0, ()),), registers=registers(0, 9))
        self.check("table", ("value", 0, 0, 1), tables=(("array", 0, (1,)),))

    def test_all_else_stays(self):
        self.assertEqual(after(("byte", 0, 0, 9), packet=(1,))[:7], run_with(packet=(1,))[:7])


def random_row(chance):
    head = chance.choice(sorted(FORMS))
    fields = []
    for field in FORMS[head]:
        if isinstance(field[0], str):
            fields.append(chance.choice(field))
        else:
            fields.append(min(field[1], chance.choice((0, 1, 2, 3, 5, chance.randint(*field)))))
    if head == "again":
        fields[1] = max(1, fields[1])
    return (head, *fields)


class TestOneChange(unittest.TestCase):
    def test_a_step_changes_at_most_one_thing(self):
        chance = random.Random(11)
        for _ in range(3000):
            row = random_row(chance)
            held = tuple(chance.choice((0, 1, 2, 3, 9, 65535)) for _ in range(8))
            run = run_with(registers=held, slots=SLOTS, counters=(0, 1, 50, 100))
            told = one_step((row,), run)
            many = sum(one != two for one, two in zip(flat(run), flat(told)))
            self.assertLessEqual(many, 1, row)
            self.assertEqual(len(flat(run)), len(flat(told)))
            self.assertEqual(told[7], RUN[7] + 1)


def flat(run):
    """Registers, slots, counters, bytes, cells and values, in a row."""
    out = list(run[0] + run[1] + run[2] + run[4])
    for sort, may, content in run[5]:
        out.extend(content if sort == "array" else [word for pair in content for word in pair])
    return out
