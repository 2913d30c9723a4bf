"""Point 8: which values are rows and sieves."""

import unittest

from suresieves.runs import is_row, is_sieve
from tests.values import SIEVE, STRANGE, put

REG, WORD, SLOT, AHEAD, TABLE, COUNTER, PLACE = (0, 7), (0, 65535), (0, 15), (0, 255), (0, 5), (0, 3), (0, 119)
RELATIONS = ("same", "other", "below", "from", "bit", "nobit")
HELPERS = ("clock", "ones", "mix")

# Each row's first word, and the least and greatest number, or the words, of each field.
FORMS = {
    "set": (REG, WORD), "move": (REG, REG), "length": (REG,), "take": (REG, SLOT), "keep": (REG, SLOT),
    "add": (REG, REG), "sub": (REG, REG), "and": (REG, REG), "or": (REG, REG), "xor": (REG, REG),
    "left": (REG, REG), "right": (REG, REG), "addn": (REG, WORD), "andn": (REG, WORD), "orn": (REG, WORD),
    "xorn": (REG, WORD), "leftn": (REG, SLOT), "rightn": (REG, SLOT),
    "byte": (REG, REG, AHEAD), "pair": (REG, REG, AHEAD), "write": (REG, REG, AHEAD),
    "cell": (REG, TABLE, REG), "fill": (REG, TABLE, REG), "count": (TABLE, REG), "find": (REG, TABLE, REG),
    "value": (REG, TABLE, REG), "change": (REG, TABLE, REG), "ask": (REG, HELPERS, REG),
    "jump": (PLACE,), "when": (RELATIONS, REG, REG, PLACE), "whenn": (RELATIONS, REG, WORD, PLACE),
    "begin": (COUNTER,), "again": (COUNTER, (1, 100), PLACE), "answer": (REG,),
}


def ends(field):
    """The values at the ends of a field, and those just beyond."""
    if isinstance(field[0], str):
        return field, ("clocks", "Same", "", "add", 0, b"ones")
    return field, (field[0] - 1, field[1] + 1, 10 ** 30)


class TestRows(unittest.TestCase):
    def test_each_field(self):
        for head, fields in FORMS.items():
            row = (head,) + tuple(field[0] for field in fields)
            self.assertIs(is_row(row), True)
            for index, field in enumerate(fields):
                right, wrong = ends(field)
                for value in right:
                    with self.subTest(head=head, index=index, value=value):
                        self.assertIs(is_row(put(row, index + 1, value)), True)
                for value in wrong + STRANGE + ((), (1,)):
                    with self.subTest(head=head, index=index, value=value):
                        self.assertIs(is_row(put(row, index + 1, value)), False)

    def test_more_or_less_or_other(self):
        for head, fields in FORMS.items():
            row = (head,) + tuple(field[0] for field in fields)
            for value in (row[:-1], row + (0,), row[1:], list(row), (row,), put(row, 0, head.upper()), "".join(head)):
                with self.subTest(value=value):
                    self.assertIs(is_row(value), False)
        for value in (("subn", 0, 1), ("label", "x"), (), ((),), ("jump", "x"), (["set"], 0, 1), ({}, 0, 1)):
            self.assertIs(is_row(value), False)

    def test_first_words(self):
        for value in STRANGE + (0, (), ("set",)):
            self.assertIs(is_row((value, 0)), False)
            self.assertIs(is_row((value, 0, 0)), isinstance(value, str) and value == "set")

    def test_sieves(self):
        for value in (SIEVE[:1], SIEVE, SIEVE * 60):
            self.assertIs(is_sieve(value), True)
        for value in ((), SIEVE * 60 + SIEVE[:1], list(SIEVE), SIEVE[0], SIEVE + (None,), ((),), (list(SIEVE[0]),)):
            self.assertIs(is_sieve(value), False)
