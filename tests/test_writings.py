"""Point 18: writings of sources, shown and read."""

import random
import unittest

from suresieves.errors import InvalidWriting
from suresieves.sources import is_source, read_source, show_source
from tests import earley, randoms

ONE, TWO, X = ("number", 1), ("number", 2), ("name", "x")

# Each kind of statement, expression and condition, and how it is shown.
SHOWN = (
    ((), ""),
    ((("let", "x", ONE),), "let x = 1"),
    ((("write", ONE, TWO),), "set byte 1 = 2"),
    ((("fill", 5, ONE, TWO),), "set cell 5 1 = 2"),
    ((("count", 0, X),), "count cell 0 x"),
    ((("change", 3, ONE, TWO),), "set value 3 1 = 2"),
    ((("answer", ("length",)),), "answer length"),
    ((("answer", ("clock",)), ("answer", ("byte", X))), "answer clock\nanswer byte x"),
    ((("answer", ("pair", ("ones", ("mix", X)))),), "answer pair ones mix x"),
    ((("answer", ("cell", 1, ("value", 2, ("has", 3, X)))),), "answer cell 1 value 2 has 3 x"),
    ((("answer", ("add", ("sub", ONE, TWO), ("and", X, ONE))),), "answer ( ( 1 - 2 ) + ( x & 1 ) )"),
    ((("answer", ("or", ("xor", ONE, TWO), ONE)),), "answer ( ( 1 ^ 2 ) | 1 )"),
    ((("answer", ("left", ("right", ONE, TWO), ONE)),), "answer ( ( 1 >> 2 ) << 1 )"),
    ((("if", ("same", ONE, TWO), (), ()),), "if 1 = 2 then\nend"),
    ((("if", ("other", ONE, TWO), (), (("answer", ONE),)),), "if 1 # 2 then\nelse\nanswer 1\nend"),
    ((("if", ("below", ONE, TWO), (("answer", ONE),), ()),), "if 1 < 2 then\nanswer 1\nend"),
    ((("if", ("not", ("from", ONE, TWO)), (("answer", ONE),), (("answer", TWO),)),),
     "if not 1 >= 2 then\nanswer 1\nelse\nanswer 2\nend"),
    ((("if", ("both", ("bit", ONE, TWO), ("either", ("nobit", ONE, TWO), ("same", X, X))), (), ()),),
     "if both 1 bit 2 and either 1 nobit 2 or x = x then\nend"),
    (tuple(("let", sign, ("name", sign + "9")) for sign in "bcdefg"),
     "let b = b9\nlet c = c9\nlet d = d9\nlet e = e9\nlet f = f9\nlet g = g9"),
    (tuple(("let", sign, ("name", sign + "0")) for sign in "qz"), "let q = q0\nlet z = z0"),
    ((("repeat", 100, (("leave",), ("repeat", 1, ()))),), "repeat 100\nleave\nrepeat 1\nend\nend"),
)

# Writings and where they are refused.
REFUSED = (
    ("answer", 6), ("answer ", 7), ("answer\n\n", 8), ("answer 1 2", 9), ("answer ( 1 + )", 13), ("answer (", 8),
    ("answer ( 1", 10), ("answer ( 1 )", 11), ("answer ( 1 + 2", 14), ("answer 1 + 2", 9), ("answer )", 7),
    ("let", 3), ("let 1 = 2", 4), ("let x 2", 6), ("let x =", 7), ("let if = 2", 4), ("let abcdefghijklm = 1", 4),
    ("let 12ab = 1", 4), ("let x = 12ab", 8), ("let x = 65536", 8), ("let x = 01", 8), ("let x = 00", 8),
    ("let x = 99999999999999999999999999", 8), ("set", 3), ("set x = 1", 4), ("set byte = 1", 9),
    ("set byte 1 2", 11), ("set cell x 1 = 2", 9), ("set cell 6 1 = 2", 9), ("set cell 00 1 = 2", 9),
    ("set value 5 1", 13), ("set value 6 1 = 2", 10),
    ("answer cell 6 1", 12), ("answer has 6 1", 11), ("answer value 6 1", 13), ("set pair 1 = 2", 4), ("count", 5), ("count byte 1", 6), ("count value 1 2", 6),
    ("count cell 6 2", 11), ("count cell 1", 12), ("if", 2), ("if 1", 4), ("if 1 = 2", 8), ("if 1 = 2 answer 1", 9),
    ("if 1 = 2 then", 13), ("if 1 = 2 then else", 18), ("if 1 = 2 then else else", 19), ("if 1 then end", 5),
    ("if not then", 7), ("if both 1 = 1 or 1 = 1 then end", 14), ("if either 1 = 1 and 1 = 1 then end", 16),
    ("if ( 1 = 2 ) then end", 7), ("if 1 == 2 then end", 6), ("if 1 > 2 then end", 5), ("if 1 <= 2 then end", 6),
    ("repeat", 6), ("repeat 0 end", 7), ("repeat 101 end", 7), ("repeat x end", 7), ("repeat 2", 8),
    ("repeat 2 else", 9), ("repeat 010 end", 7), ("end", 0), ("else", 0), ("then", 0), ("x", 0), ("7", 0),
    ("  \n end", 4), ("Answer 1", 0), ("answer\t1", 6), ("answer 1\r\nanswer 2", 8), ("answer x1y2!", 11),
    ("answer \u00e9", 7), ("answer \u0663", 7), ("answer 1 end", 9), ("leave leave end", 12), ("answer has 1", 12),
    ("answer cell 1 2 3", 16), ("answer cell x 1", 12), ("answer byte", 11), ("answer not 1", 7), ("answer 1;", 8),
    ("if 1<<2 = 4 then end", 4), ("if 1 <<2 then end", 5), ("answer (1>>>2)", 11), ("answer (1<<<2)", 11),
    ("answer lengthx answer", 21), ("answer answer", 7), ("leave let", 9), ("if1 = 2 then end", 0),
)

# The same source: blanks and new lines as one likes, and none where none is needed.
ALIKE = (
    ("let x=(1+2)", "let x = ( 1 + 2 )"),
    ("  let\nx\n\n=(  1\n+2 )  \n", "let x = ( 1 + 2 )"),
    ("if (1+2)>=(3>>4)then let x=7 else let x=8 end", "if ( 1 + 2 ) >= ( 3 >> 4 ) then let x = 7 else let x = 8 end"),
    ("if(1+2)#(3&4)then set byte(1|2)=(3^4)end", "if ( 1 + 2 ) # ( 3 & 4 ) then set byte ( 1 | 2 ) = ( 3 ^ 4 ) end"),
    ("if x<(1-1)then end", "if x < ( 1 - 1 ) then end"),
    ("answer 1 answer 2", "answer 1\nanswer 2"),
    ("if 1 = 2 then answer 1 else end", "if 1 = 2 then answer 1 end"),
    ("repeat 3 end", "repeat\n3\nend"),
)


class TestWritings(unittest.TestCase):
    def check_refused(self, writing, place):
        with self.assertRaises(InvalidWriting) as caught:
            read_source(writing)
        self.assertEqual((caught.exception.line, caught.exception.place), (0, place))

    def test_shown(self):
        for source, writing in SHOWN:
            with self.subTest(writing=writing):
                self.assertEqual(show_source(source), writing)
                self.assertEqual(read_source(writing), source)
                self.assertEqual(read_source("\n  " + writing.replace(" ", " \n ") + "\n"), source)

    def test_alike(self):
        for writing, other in ALIKE:
            with self.subTest(writing=writing):
                self.assertEqual(read_source(writing), read_source(other))

    def test_words_need_something_between(self):
        self.check_refused("if 1=2then end", 5)
        self.check_refused("if 1=2 then let x=7else end", 18)
        self.check_refused("letx = 1", 0)

    def test_refused(self):
        for writing, place in REFUSED:
            with self.subTest(writing=writing):
                self.check_refused(writing, place)

    def test_forms_right_but_no_source(self):
        lets = "let x = 1 "
        for writing in (
            "leave", "if 1 = 1 then leave end", "repeat 2 end leave", lets * 13, "if 1 = 1 then " + lets * 13 + "end",
            ("if 1 = 1 then " + lets * 12 + "end ") * 3 + lets * 2, "answer byte byte byte byte byte 1",
            "answer ( 1 + ( 1 + ( 1 + ( 1 + ( 1 + 1 ) ) ) ) )", "if not not not not 1 = 1 then end",
            "repeat 21 repeat 20 let x = 1 end end", "repeat 1 " * 5 + "end " * 5,
            "if 1 = 1 then " * 6 + "end " * 6, "answer ( a + ( b + ( c + d ) ) ) answer ( e + ( f + ( g + h ) ) )"
            " answer ( i + ( j + ( k + l ) ) ) answer m",
        ):
            with self.subTest(writing=writing):
                self.check_refused(writing, None)

    def test_a_wrong_sign_ahead_of_that(self):
        self.check_refused("leave leave !", 12)
        self.check_refused("answer byte byte byte byte byte", 31)
        self.check_refused("let x = 1 " * 13 + "let", 133)
        self.check_refused("repeat 1 " * 5 + "end " * 4, 61)

    def test_nested_thousands_deep(self):
        for opening, inner, closing in (
            ("(", "1", "+1)"), ("byte ", "1", ""), ("(1+", "1", ")"), ("cell 1 ", "x", ""),
        ):
            many = 19000 // len(opening + closing)
            whole = "answer " + opening * many + inner + closing * many
            self.check_refused(whole, None)
            self.check_refused(whole[:7 + len(opening) * many], 7 + len(opening) * many)
            self.check_refused(whole + "!", len(whole))
            self.check_refused("answer " + opening * many + "!", 7 + len(opening) * many)
        self.check_refused("answer " + "(" * 19000, 19007)
        self.check_refused("answer " + "(" * 9000 + "1" + "+1)" * 3000 + ")", 7 + 9000 + 1 + 9000)

    def test_conditions_nested_thousands_deep(self):
        for opening, closing in (("not ", ""), ("both ", " and 1=1"), ("either 1=1 or ", "")):
            many = 19000 // len(opening + closing)
            whole = "if " + opening * many + "1=1" + closing * many
            self.check_refused(whole + " then end", None)
            self.check_refused(whole, len(whole))
            self.check_refused(whole + " end", len(whole) + 1)

    def test_statements_nested_thousands_deep(self):
        for opening, closing in (("repeat 1 ", "end "), ("if 1=1 then ", "end "), ("if 1=1 then else ", "end ")):
            many = 19000 // len(opening + closing)
            whole = opening * many + closing * many
            self.check_refused(whole, None)
            self.check_refused(whole[:-4], len(whole) - 4)
            self.check_refused(whole + "end", len(whole))
        self.check_refused("let x=1 " * 2400, None)

    def test_round_by_chance(self):
        chance = random.Random(3)
        for _ in range(500):
            source = randoms.source(chance)
            writing = show_source(source)
            self.assertEqual(read_source(writing), source)
            self.assertEqual(read_source(" " + writing.replace("\n", "  ")), source)
            self.assertNotIn("  ", writing)

    def test_refused_where_the_grammar_says(self):
        chance = random.Random(8)
        words = earley.KEPT + ["x", "0", "5", "6", "65536", "100", "(", ")", "+", "<<", "=", ">=", "<", ">", "12ab", "!"]
        seen = {}
        for _ in range(1500):
            tokens = show_source(randoms.source(chance)).split()[:40] if chance.random() < 0.9 else []
            tokens = tokens[:chance.randint(0, 40)]
            if chance.random() < 0.7:
                tokens.insert(chance.randint(0, len(tokens)), chance.choice(words))
            writing = chance.choice((" ", "\n", "  ")).join(tokens)
            place = earley.refused_at(writing)
            seen[place is None] = seen.get(place is None, 0) + 1
            with self.subTest(writing=writing):
                self.check_as_told(writing, place)
        self.assertGreater(min(seen.values()), 50)

    def check_as_told(self, writing, place):
        if place is not None:
            self.check_refused(writing, place)
            return
        try:
            self.assertTrue(is_source(read_source(writing)))
        except InvalidWriting as error:
            self.assertEqual((error.line, error.place), (0, None))
