"""Point 19: listings of sieves, laid, shown and read."""

import random
import unittest

from suresieves.errors import InvalidWriting, NotLaid
from suresieves.listings import can_be_laid, is_listing, read_listing, show_listing, show_sieve, sieve_of
from suresieves.runs import is_sieve
from tests.test_rows import FORMS
from tests.test_steps import random_row
from tests.values import STRANGE, put

SET = ("set", 0, 1)
BARRED = sorted(FORMS) + "same other below from bit nobit clock ones mix label r0 r1 r2 r3 r4 r5 r6 r7".split()
FREE = "a abcdefghijkl r8 r00 r10 x1 let if then subn repeat not r labels leave has end".split()


def label(name):
    return ("label", name)


class TestForms(unittest.TestCase):
    def test_names(self):
        for name in FREE:
            self.assertIs(is_listing((label(name),)), True)
            self.assertIs(is_listing((("jump", name),)), True)
            self.assertEqual(read_listing(f"{name}:\njump {name}"), (label(name), ("jump", name)))
        for name in BARRED + ["", "A", "1a", "a_b", "abcdefghijklm", "a b", "\u00e9", None, 1, True, b"a", ("a",), ["a"]]:
            with self.subTest(name=name):
                self.assertIs(is_listing((label(name),)), False)
                self.assertIs(is_listing((("jump", name),)), name == 1 and name is not True)

    def test_lines(self):
        for line in (
            SET, label("x"), ("jump", "x"), ("jump", 119), ("when", "same", 0, 1, "x"), ("whenn", "bit", 0, 65535, "x"),
            ("again", 3, 100, "x"), ("again", 0, 1, 0),
        ):
            self.assertIs(is_listing((line,)), True)
            for value in (line[:-1], line + (0,), line + ("x",), list(line), (line,), line[0]):
                self.assertIs(is_listing((value,)), False)
            for index in range(len(line)):
                for value in STRANGE + ((), -1, 10 ** 30, 65536):
                    if isinstance(value, str) and index == len(line) - 1 and line is not SET:
                        continue
                    with self.subTest(line=line, index=index, value=value):
                        self.assertIs(is_listing((put(line, index, value),)), index == 0 and line is SET and value == "set")

    def test_names_for_d_alone(self):
        for head, fields in FORMS.items():
            row = (head,) + tuple(field[0] for field in fields)
            for index in range(1, len(row)):
                is_d = index == len(row) - 1 and head in ("jump", "when", "whenn", "again")
                self.assertIs(is_listing((put(row, index, "x"),)), is_d)

    def test_how_many(self):
        self.assertIs(is_listing((SET,) * 240), True)
        self.assertIs(is_listing((SET,) * 241), False)
        self.assertIs(is_listing(()), False)
        self.assertIs(is_listing([SET]), False)
        self.assertIs(is_listing(SET), False)


class TestLaid(unittest.TestCase):
    def not_laid(self, listing, index):
        with self.subTest(listing=listing):
            self.assertIs(can_be_laid(listing), False)
            with self.assertRaises(NotLaid) as caught:
                sieve_of(listing)
            self.assertEqual(caught.exception.index, index)

    def laid(self, listing, sieve):
        with self.subTest(listing=listing):
            self.assertIs(can_be_laid(listing), True)
            self.assertEqual(sieve_of(listing), sieve)
            self.assertIs(is_sieve(sieve), True)

    def test_places(self):
        self.laid((SET,), (SET,))
        self.laid((label("a"), SET, label("b"), label("c"), SET, ("jump", "c"), ("jump", "a"), label("d"), ("jump", "b"),
                   ("when", "same", 1, 2, "d"), ("whenn", "bit", 1, 2, "b"), ("again", 0, 5, "a"), ("jump", 119)),
                  (SET, SET, ("jump", 1), ("jump", 0), ("jump", 1), ("when", "same", 1, 2, 4),
                   ("whenn", "bit", 1, 2, 1), ("again", 0, 5, 0), ("jump", 119)))
        self.laid((("jump", "end"), label("end")), (("jump", 1),))
        self.laid((label("r8"), ("jump", "r8")), (("jump", 0),))

    def test_given_twice(self):
        self.not_laid((label("a"), SET, label("b"), label("b"), label("a")), 3)
        self.not_laid((label("a"), ("jump", "z"), label("a")), 2)
        self.not_laid((label("a"), label("a")), 1)
        self.not_laid((SET,) * 121 + (label("a"), label("b"), label("a")), 123)

    def test_not_given(self):
        self.not_laid((("jump", "away"),), 0)
        self.not_laid((label("a"), ("jump", "a"), ("whenn", "same", 0, 0, "b"), ("jump", "c")), 2)
        self.not_laid((label("a"), ("again", 0, 1, "b")), 1)

    def test_120_rows(self):
        rows = (SET,) * 118
        self.laid((("jump", "a"),) + rows + (label("a"), SET), (("jump", 119),) + rows + (SET,))
        self.not_laid((SET, ("jump", "a")) + rows + (label("a"),), 1)
        self.not_laid((SET, ("jump", "a")) + rows + (SET, label("a")), 1)
        self.laid((SET, SET) + rows + (label("a"),), (SET, SET) + rows)
        self.not_laid((SET, SET) + rows + (SET,), None)
        self.not_laid((SET,) * 240, None)
        self.not_laid((label("a"), label("b")), None)

    def test_most_lines(self):
        labels = tuple(label(f"x{k}") for k in range(120))
        listing = tuple(line for k in range(120) for line in (labels[k], ("jump", f"x{119 - k}")))
        self.laid(listing, tuple(("jump", 119 - k) for k in range(120)))


class TestShown(unittest.TestCase):
    def test_shown(self):
        for line, text in (
            (("set", 7, 65535), "set r7 65535"), (("move", 0, 1), "move r0 r1"), (("length", 3), "length r3"),
            (("take", 1, 15), "take r1 15"), (("keep", 1, 0), "keep r1 0"), (("add", 1, 2), "add r1 r2"),
            (("leftn", 1, 15), "leftn r1 15"), (("byte", 1, 2, 255), "byte r1 r2 255"),
            (("pair", 1, 2, 3), "pair r1 r2 3"), (("write", 1, 2, 3), "write r1 r2 3"),
            (("cell", 1, 5, 2), "cell r1 5 r2"), (("fill", 1, 5, 2), "fill r1 5 r2"), (("count", 5, 2), "count 5 r2"),
            (("find", 1, 0, 2), "find r1 0 r2"), (("value", 1, 0, 2), "value r1 0 r2"),
            (("change", 1, 0, 2), "change r1 0 r2"), (("ask", 1, "mix", 2), "ask r1 mix r2"),
            (("jump", 119), "jump 119"), (("jump", "away"), "jump away"),
            (("when", "nobit", 1, 2, 3), "when nobit r1 r2 3"), (("whenn", "from", 1, 2, "x"), "whenn from r1 2 x"),
            (("begin", 3), "begin 3"), (("again", 3, 100, 0), "again 3 100 0"), (("answer", 6), "answer r6"),
            (("label", "away"), "away:"),
        ):
            with self.subTest(text=text):
                self.assertEqual(show_listing((line,)), text)
                self.assertEqual(read_listing(text), (line,))
                self.assertEqual(read_listing("  " + text.replace(" ", "   ") + " "), (line,))
        for a in range(8):
            self.assertEqual(show_listing((("answer", a),)), f"answer r{a}")
            self.assertEqual(read_listing(f"answer r{a}"), (("answer", a),))
        self.assertEqual(show_listing((SET, label("a"), ("answer", 0))), "set r0 1\na:\nanswer r0")
        self.assertEqual(show_sieve((SET, ("answer", 0))), "set r0 1\nanswer r0")

    def test_round(self):
        chance = random.Random(4)
        for _ in range(300):
            rows = tuple(random_row(chance) for _ in range(chance.randint(1, 30)))
            self.assertEqual(read_listing(show_sieve(rows)), rows)
            self.assertEqual(sieve_of(read_listing(show_sieve(rows))), rows)
            listing = tuple(
                label(chance.choice(FREE)) if chance.random() < 0.2
                else row[:-1] + (chance.choice(FREE),) if row[0] in ("jump", "when", "whenn", "again") else row
                for row in rows
            )
            self.assertEqual(read_listing(show_listing(listing)), listing)


class TestRefused(unittest.TestCase):
    def check(self, writing, line, place):
        with self.subTest(writing=writing):
            with self.assertRaises(InvalidWriting) as caught:
                read_listing(writing)
            self.assertEqual((caught.exception.line, caught.exception.place), (line, place))

    def test_lines(self):
        for text, place in (
            ("", 0), ("   ", 3), ("foo", 0), ("  foo r1", 2), ("set", 3), ("set ", 4), ("set r0", 6), ("set r0  ", 8),
            ("set r0 1 2", 9), ("set r8 1", 4), ("set 0 1", 4), ("set R0 1", 4), ("set r01 1", 4), ("set r0 65536", 7),
            ("set r0 01", 7), ("set r0 -1", 7), ("set r0 x", 7), ("set r0 99999999999999999999999", 7),
            ("set r0 r1", 7), ("move r0 1", 8), ("take r0 16", 8), ("leftn r0 16", 9), ("byte r0 r1 256", 11),
            ("cell r0 6 r1", 8), ("cell r0 1 1", 10), ("ask r0 bit r1", 7), ("ask r0 clocks r1", 7), ("jump 120", 5),
            ("jump 007", 5), ("jump set", 5), ("jump r1", 5), ("jump label", 5), ("jump a:", 5), ("jump a b", 7),
            ("jump abcdefghijklm", 5), ("when clock r0 r1 5", 5), ("when r0", 5), ("whenn same r0 r1 5", 14),
            ("when same r0 1 5", 13), ("whenn same r0 65536 5", 14), ("begin 4", 6), ("again 0 0 0", 8), ("again 0 101 0", 8),
            ("again 4 1 0", 6), ("again 0 1 120", 10), ("answer 0", 7), ("answer r0 r0", 10), ("subn r0 1", 0),
            ("a", 0), (":", 0), ("a :", 0), ("a: b", 3), ("a: set r0 1", 3), ("set:", 0), ("r3:", 0), ("A:", 0),
            ("label a", 0), ("label:", 0), ("a::", 0), ("abcdefghijklm:", 0), ("set\tr0 1", 0), ("set r0\t1", 4),
            ("set r0 1\r", 7), ("set r0 1 \t", 9), ("\tset r0 1", 0), ("jump 0x", 5), ("set r0 \u0661", 7),
        ):
            self.check(text, 0, place)
            self.check("set r0 1\na:\n" + text, 2, place)
            self.check(text + "\nnothing", 0, place)

    def test_empty_lines(self):
        self.check("set r0 1\n", 1, 0)
        self.check("\nset r0 1", 0, 0)
        self.check("set r0 1\n  \nset r0 1", 1, 2)

    def test_241_lines(self):
        most = "\n".join(["set r0 1"] * 240)
        self.assertEqual(len(read_listing(most)), 240)
        self.check(most + "\n", 240, 0)
        self.check(most + "\n   ", 240, 3)
        self.check(most + "\n  set r0 1", 240, 2)
        self.check(most + "\n !!\n", 240, 1)
        self.check(most.replace("1", "x", 1) + "\nset r0 1", 0, 7)
        self.check("\n".join(["set r0 1"] * 239 + ["set r0", "set r0 1"]), 239, 6)
