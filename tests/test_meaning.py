"""Point 16: what sources mean."""

import unittest

from suresieves.errors import NoSuchTable
from suresieves.sources import meant, read_source

PACKET = (10, 20, 30, 255)
TABLES = (("array", 1, (5, 65535, 7)), ("pairs", 1, ((2, 20), (7, 70))), ("array", 0, (4,)), ("pairs", 0, ((0, 0),)))


def outcome(text, packet=PACKET, tables=TABLES, clock=321):
    return meant(read_source(text), packet, tables, clock)


class TestMeaning(unittest.TestCase):
    def check_words(self, told):
        for text, word in told:
            with self.subTest(text=text):
                self.assertEqual(outcome("answer " + text), (word, PACKET, TABLES))

    def test_simple_expressions(self):
        self.check_words((
            ("0", 0), ("65535", 65535), ("length", 4), ("clock", 321), ("unset", 0), ("ones 65535", 16), ("ones 0", 0),
            ("ones 32769", 2), ("mix 0", 1), ("mix 2", 15471), ("mix 65535", 25034),
        ))

    def test_bytes(self):
        self.check_words((
            ("byte 0", 10), ("byte 3", 255), ("byte 4", 0), ("byte 65535", 0), ("pair 0", 2580), ("pair 2", 30 * 256 + 255),
            ("pair 3", 0), ("pair 4", 0), ("pair 65535", 0), ("pair 65534", 0), ("byte ( 65535 + 2 )", 20),
            ("byte ( 0 - 1 )", 0),
        ))
        self.assertEqual(outcome("answer byte 0", packet=())[0], 0)
        self.assertEqual(outcome("answer pair 0", packet=(9,))[0], 0)
        self.assertEqual(outcome("answer byte 255", packet=(1,) * 256)[0], 1)
        self.assertEqual(outcome("answer pair 254", packet=(1,) * 256)[0], 257)

    def test_tables(self):
        self.check_words((
            ("cell 0 0", 5), ("cell 0 1", 65535), ("cell 0 2", 7), ("cell 0 3", 0), ("cell 0 65535", 0),
            ("cell 2 0", 4), ("cell 2 1", 0), ("has 1 2", 1), ("has 1 7", 1), ("has 1 3", 0), ("has 1 20", 0),
            ("value 1 2", 20), ("value 1 7", 70), ("value 1 3", 0), ("value 3 0", 0), ("has 3 0", 1), ("has 3 1", 0),
        ))

    def test_reckoning(self):
        self.check_words((
            ("( 65535 + 1 )", 0), ("( 0 - 1 )", 65535), ("( 12 & 10 )", 8), ("( 12 | 10 )", 14), ("( 12 ^ 10 )", 6),
            ("( 1 << 15 )", 32768), ("( 1 << 16 )", 1), ("( 3 << 31 )", 32768), ("( 65535 >> 15 )", 1),
            ("( 8 >> 17 )", 4), ("( ( 1 + 2 ) - ( 3 - 1 ) )", 1),
        ))

    def test_conditions(self):
        for text, holds in (
            ("1 = 1", 1), ("1 = 2", 0), ("1 # 2", 1), ("1 # 1", 0), ("1 < 2", 1), ("2 < 2", 0), ("2 >= 2", 1),
            ("1 >= 2", 0), ("6 bit 2", 1), ("6 bit 9", 0), ("6 nobit 9", 1), ("6 nobit 2", 0), ("not 1 = 2", 1),
            ("not not 1 = 2", 0), ("both 1 = 1 and 2 = 2", 1), ("both 1 = 1 and 2 = 3", 0),
            ("both 1 = 2 and 2 = 2", 0), ("either 1 = 2 or 2 = 2", 1), ("either 1 = 1 or 2 = 3", 1),
            ("either 1 = 2 or 2 = 3", 0), ("65535 < 0", 0),
        ):
            with self.subTest(text=text):
                self.assertEqual(outcome(f"if {text} then answer 1 end")[0], holds)
                self.assertEqual(outcome(f"if {text} then answer 1 else answer 2 end")[0], 1 if holds else 2)

    def test_second_condition_only_if_needed(self):
        for text in ("both 1 = 2 and cell 5 0 = 0", "not either 1 = 1 or cell 5 0 = 0"):
            self.assertEqual(outcome(f"if {text} then answer 1 else answer 2 end")[0], 2)
        for text in ("both 1 = 1 and cell 5 0 = 0", "either 1 = 2 or cell 5 0 = 0"):
            with self.assertRaises(NoSuchTable):
                outcome(f"if {text} then answer 1 end")

    def test_let(self):
        self.assertEqual(outcome("let x = ( x + 1 ) let y = x let x = ( x + y ) answer ( ( x << 4 ) | y )")[0], 33)

    def test_write(self):
        for text, packet in (
            ("set byte 0 = 7", (7, 20, 30, 255)), ("set byte 3 = 256", (10, 20, 30, 0)),
            ("set byte 1 = 65535", (10, 255, 30, 255)), ("set byte 4 = 7", PACKET), ("set byte 65535 = 7", PACKET),
            ("set byte byte 9 = byte 1", (20, 20, 30, 255)),
        ):
            with self.subTest(text=text):
                self.assertEqual(outcome(text), (0, packet, TABLES))

    def test_changes_of_tables(self):
        for text, t, content in (
            ("set cell 0 1 = 9", 0, (5, 9, 7)), ("set cell 0 3 = 9", 0, (5, 65535, 7)),
            ("set cell 2 0 = 65535", 2, (65535,)), ("count cell 0 0", 0, (6, 65535, 7)),
            ("count cell 0 1", 0, (5, 0, 7)), ("count cell 0 3", 0, (5, 65535, 7)), ("count cell 2 0", 2, (5,)),
            ("set value 1 7 = 1", 1, ((2, 20), (7, 1))), ("set value 1 2 = 65535", 1, ((2, 65535), (7, 70))),
            ("set value 1 3 = 1", 1, ((2, 20), (7, 70))), ("set value 3 0 = 8", 3, ((0, 8),)),
        ):
            tables = TABLES[:t] + ((TABLES[t][0], TABLES[t][1], content),) + TABLES[t + 1:]
            with self.subTest(text=text):
                self.assertEqual(outcome(text), (0, PACKET, tables))

    def test_may_and_writable_do_not_matter(self):
        tables = (("array", 0, (1,)), ("pairs", 0, ((1, 1),)))
        text = "count cell 0 0 set cell 0 0 = ( cell 0 0 + 5 ) set value 1 1 = 4"
        told = (("array", 0, (7,)), ("pairs", 0, ((1, 4),)))
        self.assertEqual(outcome(text, tables=tables), (0, PACKET, told))

    def test_first_then_second(self):
        # Both words are reckoned ahead of looking at the table that there is not.
        for text, t in (
            ("answer cell 5 value 4 0", 4), ("answer value 5 cell 4 0", 4), ("answer has 5 byte cell 4 0", 4),
            ("set cell 5 cell 4 0 = cell 3 0", 4), ("set cell 5 0 = cell 4 0", 4), ("set value 5 0 = cell 4 0", 4),
            ("set value 5 cell 4 0 = cell 3 0", 4), ("set byte cell 4 0 = cell 5 0", 4), ("set byte 0 = cell 5 0", 5),
            ("count cell 5 cell 4 0", 4), ("answer ( cell 4 0 + cell 5 0 )", 4), ("answer cell 1 0", 1),
            ("answer value 0 0", 0), ("answer has 2 0", 2), ("count cell 3 0", 3), ("set cell 1 9 = 0", 1),
            ("set value 0 0 = 0", 0), ("if cell 4 0 = cell 5 0 then end", 4), ("answer cell 4 9", 4),
            ("let x = cell 5 0", 5), ("answer value 4 0", 4), ("answer has 5 0", 5), ("set value 5 0 = 0", 5),
        ):
            with self.subTest(text=text):
                with self.assertRaises(NoSuchTable) as caught:
                    outcome(text)
                self.assertEqual(caught.exception.given, t)

    def test_tables_that_are_not_looked_at(self):
        for text in (
            "answer 0 answer cell 5 0", "if 1 = 2 then count cell 5 0 end", "repeat 2 leave count cell 5 0 end",
            "if 1 = 1 then else count cell 5 0 end",
        ):
            self.assertEqual(outcome(text), (0, PACKET, TABLES))

    def test_changes_stay_until_the_answer(self):
        told = outcome("set byte 0 = 9 count cell 0 0 answer 3 set byte 0 = 8")
        self.assertEqual(told, (3, (9,) + PACKET[1:], (("array", 1, (6, 65535, 7)),) + TABLES[1:]))

    def test_repeat_and_leave(self):
        for text, word in (
            ("repeat 100 let x = ( x + 1 ) end answer x", 100), ("repeat 1 let x = ( x + 1 ) end answer x", 1),
            ("repeat 5 let x = ( x + 1 ) if x = 3 then leave end end answer x", 3),
            ("repeat 3 repeat 4 let x = ( x + 1 ) leave end let y = ( y + 1 ) end answer ( ( x << 4 ) + y )", 51),
            ("repeat 3 repeat 4 let x = ( x + 1 ) end leave end answer x", 4),
            ("repeat 3 repeat 1 leave end let x = ( x + 1 ) end answer x", 3),
            ("repeat 3 if 1 = 1 then if 1 = 1 then leave end end let x = 9 end answer x", 0),
            ("repeat 9 let x = ( x + 1 ) if x = 4 then answer 77 end end answer x", 77),
            ("repeat 4 repeat 5 repeat 5 repeat 4 let x = ( x + 1 ) end end end end answer x", 400),
            ("repeat 9 end answer 5", 5),
        ):
            with self.subTest(text=text):
                self.assertEqual(outcome(text)[0], word)

    def test_end(self):
        self.assertEqual(outcome(""), (0, PACKET, TABLES))
        self.assertEqual(outcome("let x = 5")[0], 0)
        self.assertEqual(outcome("answer 5 answer 6")[0], 5)
