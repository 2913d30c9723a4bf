"""Point 17: which grant serves a source, and its sieve row by row."""

import random
import unittest

from suresieves.compiling import compiled, does_serve
from suresieves.errors import NotServed, TooMany
from suresieves.listings import read_listing, sieve_of
from suresieves.runs import answer_of, begun, fits, is_sieve, run_on
from suresieves.sources import meant, read_source
from tests import randoms

GRANT = (0, 64, 1, (("array", 1, 3), ("pairs", 1, 4), ("array", 0, 1), ("pairs", 0, 0)))
END = "set r0 0 / answer r0"

# Writings of sources and their rows, labels standing for places.
TOLD = (
    ("", ""),
    ("answer 7", "set r0 7 / answer r0"),
    ("answer length", "length r0 / answer r0"),
    ("answer clock", "ask r0 clock r0 / answer r0"),
    ("let b = a", "take r0 1 / keep r0 0"),
    ("let a = a let b = a", "take r0 0 / keep r0 0 / take r0 0 / keep r0 1"),
    ("answer ones 3", "set r0 3 / ask r0 ones r0 / answer r0"),
    ("answer mix clock", "ask r0 clock r0 / ask r0 mix r0 / answer r0"),
    ("answer ( 1 + length )", "set r0 1 / length r1 / add r0 r1 / answer r0"),
    ("answer ( ( 1 - 2 ) & ( 3 | 4 ) )",
     "set r0 1 / set r1 2 / sub r0 r1 / set r1 3 / set r2 4 / or r1 r2 / and r0 r1 / answer r0"),
    ("answer ( 1 ^ ( 2 << ( 3 >> clock ) ) )",
     "set r0 1 / set r1 2 / set r2 3 / ask r3 clock r3 / right r2 r3 / left r1 r2 / xor r0 r1 / answer r0"),
    ("answer byte 2",
     "set r0 2 / length r6 / when from r0 r6 a1 / byte r0 r0 0 / jump b1 / a1: / set r0 0 / b1: / answer r0"),
    ("answer ( 1 + byte length )",
     "set r0 1 / length r1 / length r6 / when from r1 r6 a1 / byte r1 r1 0 / jump b1 / a1: / set r1 0 / b1: /"
     " add r0 r1 / answer r0"),
    ("answer pair 2",
     "set r0 2 / length r6 / when from r0 r6 a1 / move r7 r0 / addn r7 1 / when from r7 r6 a1 / byte r0 r0 0 /"
     " byte r7 r7 0 / leftn r0 8 / or r0 r7 / jump b1 / a1: / set r0 0 / b1: / answer r0"),
    ("answer cell 0 clock",
     "ask r0 clock r0 / whenn from r0 3 a1 / cell r0 0 r0 / jump b1 / a1: / set r0 0 / b1: / answer r0"),
    ("answer ( 1 + cell 2 0 )",
     "set r0 1 / set r1 0 / whenn from r1 1 a1 / cell r1 2 r1 / jump b1 / a1: / set r1 0 / b1: / add r0 r1 / answer r0"),
    ("answer has 1 5", "set r0 5 / find r0 1 r0 / whenn same r0 0 a1 / set r0 1 / a1: / answer r0"),
    ("answer value 3 5", "set r0 5 / find r0 3 r0 / whenn same r0 0 a1 / value r0 3 r0 / a1: / answer r0"),
    ("answer ( 1 + value 1 5 )",
     "set r0 1 / set r1 5 / find r1 1 r1 / whenn same r1 0 a1 / value r1 1 r1 / a1: / add r0 r1 / answer r0"),
    ("set byte 3 = 4", "set r0 3 / set r1 4 / length r6 / when from r0 r6 a1 / write r1 r0 0 / a1:"),
    ("set cell 0 2 = 4", "set r0 2 / set r1 4 / whenn from r0 3 a1 / fill r1 0 r0 / a1:"),
    ("count cell 0 2", "set r0 2 / whenn from r0 3 a1 / count 0 r0 / a1:"),
    ("set value 1 2 = length", "set r0 2 / length r1 / find r0 1 r0 / whenn same r0 0 a1 / change r1 1 r0 / a1:"),
    ("if 1 = 2 then answer 3 end", "set r0 1 / set r1 2 / when other r0 r1 a1 / set r0 3 / answer r0 / a1:"),
    ("if 1 # 2 then end", "set r0 1 / set r1 2 / when same r0 r1 a1 / a1:"),
    ("if 1 < 2 then let x = 3 else let x = 4 end",
     "set r0 1 / set r1 2 / when from r0 r1 a1 / set r0 3 / keep r0 0 / jump b1 / a1: / set r0 4 / keep r0 0 / b1:"),
    ("if 1 >= 2 then else let x = 4 end",
     "set r0 1 / set r1 2 / when below r0 r1 a1 / jump b1 / a1: / set r0 4 / keep r0 0 / b1:"),
    ("if 1 bit 2 then end", "set r0 1 / set r1 2 / when nobit r0 r1 a1 / a1:"),
    ("if 1 nobit 2 then end", "set r0 1 / set r1 2 / when bit r0 r1 a1 / a1:"),
    ("if not 1 = 2 then let x = 0 end", "set r0 1 / set r1 2 / when same r0 r1 a1 / set r0 0 / keep r0 0 / a1:"),
    ("if not not 1 = 2 then let x = 0 end", "set r0 1 / set r1 2 / when other r0 r1 a1 / set r0 0 / keep r0 0 / a1:"),
    ("if both 1 = 2 and 3 < 4 then let x = 0 end",
     "set r0 1 / set r1 2 / when other r0 r1 a1 / set r0 3 / set r1 4 / when from r0 r1 a1 / set r0 0 / keep r0 0 / a1:"),
    ("if either 1 = 2 or 3 < 4 then let x = 0 end",
     "set r0 1 / set r1 2 / when same r0 r1 c1 / set r0 3 / set r1 4 / when from r0 r1 a1 / c1: / set r0 0 /"
     " keep r0 0 / a1:"),
    ("if not either 1 = 2 or 3 < 4 then let x = 0 end",
     "set r0 1 / set r1 2 / when same r0 r1 a1 / set r0 3 / set r1 4 / when below r0 r1 a1 / set r0 0 / keep r0 0 / a1:"),
    ("if not both 1 = 2 and 3 < 4 then let x = 0 end",
     "set r0 1 / set r1 2 / when other r0 r1 c1 / set r0 3 / set r1 4 / when below r0 r1 a1 / c1: / set r0 0 /"
     " keep r0 0 / a1:"),
    ("if either both 1 = 2 and 3 < 4 or not 5 bit 6 then let x = 0 end",
     "set r0 1 / set r1 2 / when other r0 r1 d1 / set r0 3 / set r1 4 / when below r0 r1 c1 / d1: /"
     " set r0 5 / set r1 6 / when bit r0 r1 a1 / c1: / set r0 0 / keep r0 0 / a1:"),
    ("repeat 1 let x = 0 end", "set r0 0 / keep r0 0"),
    ("repeat 2 let x = 0 end", "begin 0 / a1: / set r0 0 / keep r0 0 / again 0 1 a1"),
    ("repeat 100 end", "begin 0 / a1: / again 0 99 a1"),
    ("repeat 1 leave leave let x = 0 end", "jump b1 / jump b1 / set r0 0 / keep r0 0 / b1:"),
    ("repeat 3 if 1 = 2 then leave end let x = 0 end",
     "begin 0 / a1: / set r0 1 / set r1 2 / when other r0 r1 c1 / jump b1 / c1: / set r0 0 / keep r0 0 /"
     " again 0 2 a1 / b1:"),
    ("repeat 2 repeat 1 repeat 3 leave end leave end leave end repeat 4 end",
     "begin 0 / a1: / begin 2 / a2: / jump b2 / again 2 2 a2 / b2: / jump b3 / b3: / jump b1 / again 0 1 a1 / b1: /"
     " begin 0 / a4: / again 0 3 a4"),
    ("repeat 2 if 1 = 1 then repeat 2 repeat 2 repeat 2 end end end end end",
     "begin 0 / a1: / set r0 1 / set r1 1 / when other r0 r1 z / begin 1 / a2: / begin 2 / a3: / begin 3 / a4: /"
     " again 3 1 a4 / again 2 1 a3 / again 1 1 a2 / z: / again 0 1 a1"),
    ("answer 1 answer 2", "set r0 1 / answer r0 / set r0 2 / answer r0"),
)


def sieve_told(rows):
    text = rows + " / " + END if rows else END
    return sieve_of(read_listing(text.replace("/", "\n")))


class TestServed(unittest.TestCase):
    def check(self, text, writable, kinds, told):
        with self.subTest(text=text, kinds=kinds):
            source, grant = read_source(text), (0, 9, writable, kinds)
            self.assertIs(does_serve(source, grant), told)
            if told:
                self.assertTrue(is_sieve(compiled(source, grant)))
            else:
                with self.assertRaises(NotServed):
                    compiled(source, grant)

    def test_tables(self):
        arrays, fixed = (("array", 1, 2),), (("array", 0, 2),)
        pairs, fixed_pairs = (("pairs", 1, 2),), (("pairs", 0, 2),)
        for text, is_array, needs_may in (
            ("answer cell 0 1", True, False), ("set cell 0 1 = 2", True, True), ("count cell 0 1", True, True),
            ("answer value 0 1", False, False), ("answer has 0 1", False, False), ("set value 0 1 = 2", False, True),
        ):
            self.check(text, 0, arrays, is_array)
            self.check(text, 0, fixed, is_array and not needs_may)
            self.check(text, 0, pairs, not is_array)
            self.check(text, 0, fixed_pairs, not is_array and not needs_may)
            self.check(text, 0, (), False)
            self.check(text.replace(" 0 1", " 5 1"), 0, arrays + pairs, False)
            self.check(text.replace(" 0 1", " 1 1"), 0, arrays + pairs, not is_array)

    def test_write(self):
        self.check("set byte 0 = 1", 1, (), True)
        self.check("set byte 0 = 1", 0, (), False)
        self.check("answer byte 0", 0, (), True)

    def test_everywhere(self):
        for text in (
            "if 1 = 2 then set byte 0 = 1 end", "if 1 = 2 then else set byte 0 = 1 end",
            "repeat 3 set byte 0 = 1 end", "answer 1 set byte 0 = 1", "answer ( 1 + byte cell 0 0 )",
            "if not either 1 = 2 or 1 = has 0 0 then end", "let x = value 3 3", "set byte 0 = cell 0 0",
            "repeat 2 repeat 3 if 1 = 2 then if 1 = 2 then else count cell 3 0 end end end end",
        ):
            self.check(text, 0, (), False)

    def test_names_like_words(self):
        self.check("let write = fill let change = name answer add", 0, (), True)

    def test_not_served_ahead_of_too_many(self):
        with self.assertRaises(NotServed):
            compiled(read_source("let x = pair pair 0 " * 8 + "set byte 0 = 0"), (0, 9, 0, ()))


class TestRows(unittest.TestCase):
    def test_row_by_row(self):
        for text, rows in TOLD:
            with self.subTest(text=text):
                self.assertEqual(compiled(read_source(text), GRANT), sieve_told(rows))

    def test_deepest(self):
        text = "set byte 0 = ( 1 + ( 2 + ( 3 + ( 4 + 5 ) ) ) )"
        rows = compiled(read_source(text), GRANT)
        self.assertEqual(rows[1:6], tuple(("set", k, k) for k in range(1, 6)))
        text = "if 1 = ( 1 + ( 2 + ( 3 + pair 4 ) ) ) then end"
        self.assertIn(("byte", 4, 4, 0), compiled(read_source(text), GRANT))

    def test_sizes_are_the_grants(self):
        rows = compiled(read_source("answer cell 0 0"), (0, 0, 0, (("array", 0, 32),)))
        self.assertEqual(rows[1], ("whenn", "from", 0, 32, 4))

    def test_how_many(self):
        lets = "let x = 0 " * 12
        ifs = "if 1 = 1 then " + lets + "end "
        # 24 and 3 rows for each, and 2 at the end.
        self.assertEqual(len(compiled(read_source(ifs * 3), GRANT)), 83)
        full = ifs * 3 + "answer ( ( ( ( 1 + 2 ) + 3 ) + 4 ) + ( ( 5 + 6 ) + ( 7 + 8 ) ) )"
        self.assertEqual(len(compiled(read_source(full), GRANT)), 83 + 16)

    def test_just_120_and_121(self):
        ifs = "if 1 = 1 then " + "let x = 0 " * 12 + "end "
        # A pair has 11 rows and those of its expression.
        for end, many in (("( pair pair 0 + pair 0 )", 120), ("( pair pair 0 + pair ones 0 )", 121)):
            source = read_source(ifs * 3 + "answer " + end)
            if many == 120:
                self.assertEqual(len(compiled(source, GRANT)), 120)
            else:
                with self.assertRaises(TooMany) as caught:
                    compiled(source, GRANT)
                self.assertEqual(caught.exception.given, 121)

    def test_many_more(self):
        big = "pair pair pair pair 0"
        source = read_source(f"if 1 = 1 then {f'let x = {big} ' * 12}end " * 3)
        with self.assertRaises(TooMany) as caught:
            compiled(source, GRANT)
        self.assertEqual(caught.exception.given, 3 * (3 + 12 * (1 + 4 * 11 + 1)) + 2)


class TestMeaning(unittest.TestCase):
    def test_ends_as_the_source_means(self):
        chance = random.Random(5)
        many = 0
        while many < 700:
            source = randoms.source(chance)
            self.assertTrue(does_serve(source, randoms.GRANT))
            try:
                sieve = compiled(source, randoms.GRANT)
            except TooMany:
                continue
            many += 1
            self.assertTrue(is_sieve(sieve))
            for _ in range(4):
                self.check(source, sieve, chance)

    def check(self, source, sieve, chance):
        packet, tables, clock = randoms.packet(chance), randoms.tables(chance), randoms.word(chance)
        run = begun(packet, tables, clock, 1)
        self.assertTrue(fits(randoms.GRANT, run))
        answer, changed, tables_then = meant(source, packet, tables, clock)
        end = run_on(sieve, run, 20000)
        self.assertEqual((end[8], end[4], end[5]), (("answer", answer), changed, tables_then), source)
        self.assertEqual(answer_of(sieve, run), ("answer", answer))
