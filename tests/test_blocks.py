"""Point 31: blocks."""

import unittest

from suresieves.blocks import block_at, is_ender
from suresieves.listings import read_listing
from tests.test_rows import FORMS

ENDERS = ("jump", "when", "whenn", "again", "answer")


def first_row(head):
    """A row with this first word."""
    fields = []
    for field in FORMS[head]:
        fields.append(field[0] if isinstance(field[0], str) else max(field[0], 1) if head == "again" else field[0])
    return (head, *fields)


class TestBlocks(unittest.TestCase):
    def test_enders(self):
        self.assertEqual(len(FORMS), 34)
        for head in FORMS:
            self.assertIs(is_ender(first_row(head)), head in ENDERS, head)

    def test_up_to_the_first_ender(self):
        for head in ENDERS:
            sieve = (("set", 0, 0), ("set", 1, 1), first_row(head), ("set", 2, 2), first_row(head), ("set", 3, 3))
            for place, many in enumerate((3, 2, 1, 2, 1, 1)):
                self.assertEqual(block_at(sieve, place, 12), sieve[place:place + many])
                self.assertEqual(block_at(sieve, place, many), sieve[place:place + many])
                if many > 1:
                    self.assertEqual(block_at(sieve, place, many - 1), sieve[place:place + many - 1])

    def test_up_to_the_end_and_beyond(self):
        sieve = tuple(("set", 0, k) for k in range(120))
        for limit in range(1, 13):
            for place in range(120):
                self.assertEqual(block_at(sieve, place, limit), sieve[place:place + limit])
        for place in (3, 4, 119):
            self.assertEqual(block_at(sieve[:3], place, 12), ())
        self.assertEqual(block_at(sieve[:3], 2, 12), sieve[2:3])

    def test_of_a_listing(self):
        sieve = read_listing("length r0\nfind r1 0 r0\nwrite r1 r0 3\nkeep r0 3\nbegin 2\ncount 0 r1\nanswer r1")
        self.assertEqual(block_at(sieve, 0, 12), sieve)
        self.assertEqual(block_at(sieve, 0, 6), sieve[:6])
