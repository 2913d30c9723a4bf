"""Points 13, 14 and 15: which values are sources, their variables and rounds."""

import unittest

from suresieves.sources import is_source, rounds_of, variables_in
from tests.values import STRANGE, put

KEPT = """let set byte pair cell value has ones mix length clock count if then else end repeat leave answer
not both and either or bit nobit""".split()
ONE = ("number", 1)
SAME = ("same", ONE, ONE)
LET = ("let", "x", ONE)


def deep_expression(many):
    """An expression nested so many deep."""
    told = ("clock",)
    for k in range(many - 1):
        told = (("byte", told), ("add", ONE, told), ("cell", 5, told))[k % 3]
    return told


def deep_condition(many):
    told = SAME
    for k in range(many - 1):
        told = (("not", told), ("both", SAME, told), ("either", told, SAME))[k % 3]
    return told


def within(many, inner):
    """A body within so many ifs."""
    for k in range(many):
        inner = (("if", SAME, inner, ()) if k % 2 else ("if", SAME, (), inner),)
    return inner


def repeated(times, inner):
    for many in times:
        inner = (("repeat", many, inner),)
    return inner


def answers(expression):
    return (("answer", expression),)


class SourceCase(unittest.TestCase):
    def right(self, value):
        with self.subTest(value=value):
            self.assertIs(is_source(value), True)

    def wrong(self, value):
        with self.subTest(value=value):
            self.assertIs(is_source(value), False)


class TestNames(SourceCase):
    def test_right(self):
        for name in ("a", "z9", "abcdefghijkl", "a23456789012", "r0", "write", "then1", "fill", "name", "number"):
            self.right((("let", name, ONE),))
            self.right(answers(("name", name)))

    def test_wrong(self):
        for name in KEPT + ["", "A", "aB", "1", "9a", "a b", "a_", "abcdefghijklm", "\u00e9", "a\u0663", " a", "a\n"]:
            self.wrong((("let", name, ONE),))
            self.wrong(answers(("name", name)))
        for name in (None, 1, True, b"a", ("a",), ["a"]):
            self.wrong((("let", name, ONE),))
            self.wrong(answers(("name", name)))


class TestExpressions(SourceCase):
    def test_right(self):
        for expression in (
            ("number", 0), ("number", 65535), ("length",), ("clock",), ("byte", ONE), ("pair", ONE), ("ones", ONE),
            ("mix", ONE), ("cell", 0, ONE), ("cell", 5, ONE), ("value", 5, ONE), ("has", 5, ONE), ("add", ONE, ONE),
            ("sub", ONE, ONE), ("and", ONE, ONE), ("or", ONE, ONE), ("xor", ONE, ONE), ("left", ONE, ONE),
            ("right", ONE, ONE),
        ):
            self.right(answers(expression))
            for value in (expression[:-1], expression + (0,), expression + (ONE,), list(expression), (expression,)):
                self.wrong(answers(value))
            for index in range(len(expression)):
                for value in STRANGE + ((), -1, 10 ** 30, 65536, ("leave",), SAME):
                    self.wrong(answers(put(expression, index, value)))

    def test_tables(self):
        for head in ("cell", "value", "has"):
            for t in (-1, 6, True, None, "0"):
                self.wrong(answers((head, t, ONE)))

    def test_of_other_sorts(self):
        for value in (SAME, ("not", SAME), LET, ("leave",), ("addn", ONE, 1), ("answer", ONE), (), 1, "x", None):
            self.wrong(answers(value))

    def test_how_deep(self):
        self.right(answers(deep_expression(5)))
        self.wrong(answers(deep_expression(6)))
        self.wrong(answers(deep_expression(25)))
        self.right(answers(("sub", deep_expression(4), ONE)))
        self.wrong(answers(("sub", deep_expression(5), ONE)))
        self.wrong(answers(("sub", ONE, deep_expression(5))))
        for head in ("write", "fill", "change"):
            start = (head,) if head == "write" else (head, 0)
            self.right((start + (deep_expression(5), deep_expression(5)),))
            self.wrong((start + (deep_expression(6), ONE),))
            self.wrong((start + (ONE, deep_expression(6)),))
        self.wrong((("count", 0, deep_expression(6)),))
        self.wrong((("let", "x", deep_expression(6)),))


class TestConditions(SourceCase):
    def asked(self, condition):
        return (("if", condition, (LET,), (LET,)),)

    def test_right(self):
        for relation in ("same", "other", "below", "from", "bit", "nobit"):
            self.right(self.asked((relation, ONE, ("length",))))
        self.right(self.asked(("not", SAME)))
        self.right(self.asked(("both", SAME, SAME)))
        self.right(self.asked(("either", SAME, SAME)))

    def test_wrong(self):
        for condition in (SAME, ("not", SAME), ("both", SAME, SAME), ("either", SAME, SAME)):
            for value in (condition[:-1], condition + (SAME,), condition + (ONE,), list(condition), (condition,)):
                self.wrong(self.asked(value))
            for index in range(len(condition)):
                for value in STRANGE + ((), 0, 1, LET, ("add", ONE, ONE) if condition is not SAME else ("not", SAME)):
                    self.wrong(self.asked(put(condition, index, value)))
        for value in (("and", SAME, SAME), ("or", SAME, SAME), ("when", ONE, ONE), ONE):
            self.wrong(self.asked(value))

    def test_how_deep(self):
        self.right(self.asked(deep_condition(4)))
        self.wrong(self.asked(deep_condition(5)))
        self.right(self.asked(("both", SAME, deep_condition(3))))
        self.wrong(self.asked(("both", deep_condition(4), SAME)))
        self.wrong(self.asked(("either", SAME, deep_condition(4))))
        four = ("not", ("not", ("not", ("same", deep_expression(5), deep_expression(5)))))
        self.right(self.asked(four))
        self.wrong(self.asked(("same", deep_expression(6), ONE)))


class TestStatements(SourceCase):
    def test_right(self):
        for value in (
            LET, ("write", ONE, ONE), ("fill", 0, ONE, ONE), ("count", 5, ONE), ("change", 5, ONE, ONE),
            ("if", SAME, (), ()), ("repeat", 1, ()), ("repeat", 100, (("leave",),)), ("answer", ONE),
        ):
            self.right((value,))
            for other in (value[:-1], value + (ONE,), value + ((),), list(value), (value,)):
                self.wrong((other,))
            for index in range(len(value)):
                for other in STRANGE + (-1, 101, 10 ** 30, (LET[0],), (None,)):
                    if value[0] == "let" and index == 1 and isinstance(other, str):
                        continue
                    self.wrong((put(value, index, other),))

    def test_bounds(self):
        for head in ("fill", "change"):
            self.right(((head, 5, ONE, ONE),))
            self.wrong(((head, 6, ONE, ONE),))
        self.wrong((("count", 6, ONE),))
        for times in (0, 101, -1, True, None, "2"):
            self.wrong((("repeat", times, ()),))

    def test_sources(self):
        self.right(())
        for value in ([], [LET], LET, (LET, None), (list(LET),), ((LET,),), ("let",), ("let", "x")):
            self.wrong(value)

    def test_leave(self):
        self.wrong((("leave",),))
        self.wrong((("if", SAME, (("leave",),), ()),))
        self.wrong((("repeat", 2, ()), ("leave",)))
        self.right((("repeat", 1, (("leave",),)),))
        self.right((("repeat", 2, (("if", SAME, (), (("leave",),)),)),))
        self.wrong((("repeat", 2, (("leave", 1),)),))

    def test_how_many(self):
        self.right((LET,) * 12)
        self.wrong((LET,) * 13)
        self.right((("if", SAME, (LET,) * 12, (LET,) * 12),))
        self.wrong((("if", SAME, (LET,) * 13, ()),))
        self.wrong((("if", SAME, (), (LET,) * 13),))
        self.wrong((("repeat", 1, (LET,) * 13),))
        # an if and twelve statements, thrice, and one: 40.
        blocks = (("if", SAME, (LET,) * 12, ()), ("repeat", 2, (LET,) * 12), ("if", SAME, (LET,) * 6, (LET,) * 6))
        self.right(blocks + (LET,))
        self.wrong(blocks + (LET, LET))

    def test_how_many_variables(self):
        twelve = tuple(("let", f"v{k}", ONE) for k in range(6)) + tuple(
            ("answer", ("name", f"w{k}")) for k in range(6)
        )
        self.right(twelve)
        self.right(twelve[:11] + (("answer", ("add", ("name", "w5"), ("name", "v0"))),))
        self.wrong(twelve[:11] + (("answer", ("add", ("name", "w5"), ("name", "w6"))),))
        more = twelve[:11] + (("if", ("same", ("name", "w5"), ("name", "c")), (), ()),)
        self.wrong(more)

    def test_how_deep(self):
        self.right(within(5, (LET,)))
        self.right(within(5, ()))
        self.wrong(within(6, ()))
        self.wrong(within(25, ()))
        self.right(repeated((2, 2, 2, 2), (LET,)))
        self.wrong(repeated((1, 1, 1, 1, 1), ()))
        self.right(within(1, repeated((1, 1, 1, 1), ())))
        self.wrong(within(2, repeated((1, 1, 1, 1), ())))
        self.right(repeated((1, 1, 1, 1), within(1, (LET,))))
        self.wrong(repeated((1, 1), within(1, repeated((1, 1, 1), ()))))


class TestRounds(SourceCase):
    def test_up_to_400(self):
        self.right(repeated((100, 4), (LET,)))
        self.right(repeated((4, 100), (LET,)))
        self.wrong(repeated((67, 6), (LET,)))
        self.wrong(repeated((100, 5), (("leave",),)))
        self.wrong(repeated((2, 201), (LET,)))
        self.wrong(repeated((21, 20), (("if", SAME, (), ()),)))
        self.right(repeated((20, 20), (("if", SAME, (LET,), ()),)))
        self.wrong(repeated((5, 9, 9), (LET,)))

    def test_only_statements_have_rounds(self):
        self.right(repeated((100, 100), ()))
        self.wrong(repeated((100, 100), (("repeat", 1, ()),)))

    def test_greatest(self):
        for source, rounds in (
            ((), 1), ((LET,), 1), (repeated((7,), ()), 1), (repeated((7,), (LET,)), 7),
            (repeated((3, 5, 4), (LET,)), 60), (repeated((3, 5, 4), ()), 20),
            (repeated((7,), (LET,)) + repeated((9,), (LET,)) + repeated((8,), (LET,)), 9),
            ((("if", SAME, repeated((4,), (LET,)), repeated((6,), (LET,))),), 6),
            (repeated((7,), (("if", SAME, (), ()),)), 7), (repeated((100, 4), (("leave",),)), 400),
            ((("repeat", 7, (("if", SAME, (), repeated((6,), (LET,))), ("leave",))),), 42),
        ):
            with self.subTest(source=source):
                self.assertEqual(rounds_of(source), rounds)


class TestVariables(unittest.TestCase):
    def test_order(self):
        def name(text):
            return ("name", text)

        for source, names in (
            ((), ()), ((LET,), ("x",)), ((("let", "b", name("a")), ("let", "a", name("c"))), ("b", "a", "c")),
            ((("answer", ("add", name("z"), ("sub", name("y"), name("z")))),), ("z", "y")),
            ((("write", name("q"), name("p")),), ("q", "p")), ((("fill", 1, name("q"), name("p")),), ("q", "p")),
            ((("change", 1, name("q"), name("p")),), ("q", "p")), ((("count", 1, name("q")),), ("q",)),
            ((("if", ("both", ("same", name("d"), name("c")), ("not", ("bit", name("b"), name("a")))),
               (("let", "f", name("e")),), (("repeat", 3, (("let", "h", name("g")),)),)),),
             ("d", "c", "b", "a", "f", "e", "h", "g")),
            ((("answer", ("cell", 0, ("byte", name("name")))), ("let", "number", name("fill"))),
             ("name", "number", "fill")),
        ):
            with self.subTest(source=source):
                self.assertEqual(variables_in(source), names)
