"""Point 53: two sieves joined into one."""

import random
import unittest

from suresieves.chains import joined
from suresieves.errors import TooMany
from suresieves.flows import flow_of, flowed, link_of
from suresieves.runs import answer_of, begun, is_sieve, one_step, run_on
from tests import drawn

BETWEEN = tuple(("set", r, 0) for r in range(8)) + tuple(("keep", 0, k) for k in range(16)) + tuple(("begin", c) for c in range(4))


def end_of(sieve, run):
    """The run where it has ended, and behind how many steps; None if it goes on and on."""
    behind = run_on(sieve, run, 5000)
    return None if behind[8] is None else (behind, behind[7] - run[7])


class TestRows(unittest.TestCase):
    def test_by_hand(self):
        first = (("whenn", "same", 0, 3, 3), ("answer", 5), ("jump", 1), ("set", 2, 1), ("answer", 2))
        second = (("length", 0), ("when", "below", 0, 1, 0), ("answer", 0))
        self.assertEqual(joined(first, second), (
            ("whenn", "same", 0, 3, 4), ("whenn", "same", 5, 1, 7), ("answer", 5), ("jump", 1), ("set", 2, 1),
            ("whenn", "same", 2, 1, 7), ("answer", 2),
        ) + BETWEEN + (("length", 0), ("when", "below", 0, 1, 35), ("answer", 0)))

    def test_no_such_place(self):
        first = (("answer", 0), ("jump", 2), ("again", 1, 5, 119), ("when", "bit", 0, 1, 4), ("whenn", "from", 0, 1, 99))
        second = (("set", 0, 0), ("jump", 2), ("again", 0, 1, 1), ("jump", 4))
        self.assertEqual(joined((("jump", 2), ("jump", 1)), second)[:2], (("jump", 0), ("jump", 1)))
        told = joined(first, second)
        self.assertEqual(told[:6], (
            ("whenn", "same", 0, 1, 6), ("answer", 0), ("jump", 3), ("again", 1, 5, 3), ("when", "bit", 0, 1, 5),
            ("whenn", "from", 0, 1, 5),
        ))
        self.assertEqual(told[34:], (("set", 0, 0), ("jump", 36), ("again", 0, 1, 35), ("jump", 37)))

    def test_how_many(self):
        first, second = (("answer", 0),) * 6, (("set", 0, 1),) * 80
        self.assertEqual(len(joined(first, second)), 120)
        self.assertTrue(is_sieve(joined(first, second)))
        for one, two, many in ((first, second + second[:1], 121), (first + first[:1], second, 122), (second, second, 188),
                               ((("answer", 0),) * 120, (("answer", 0),) * 120, 388)):
            with self.assertRaises(TooMany) as caught:
                joined(one, two)
            self.assertEqual(vars(caught.exception), {"given": many})


class TestRuns(unittest.TestCase):
    def check(self, first, second, run):
        """The run of the joined sieve beside those of both: how it ended."""
        told = joined(first, second)
        one, whole = end_of(first, run), end_of(told, run)
        if one is None or one[0][8][0] == "fault":
            return None
        behind, steps = one
        if behind[8] != ("answer", 1):
            self.assertEqual(whole[0][4:6] + (whole[0][8], whole[1]), behind[4:6] + (behind[8], steps + 1))
            return "first"
        two = end_of(second, begun(behind[4], behind[5], run[6], run[9]))
        if two is None or two[0][8][0] == "fault":
            return None
        self.assertEqual(whole[0][4:6] + (whole[0][8], whole[1]), two[0][4:6] + (two[0][8], steps + 28 + two[1]))
        return "second"

    def test_drawn(self):
        chance, seen = random.Random(55), {"first": 0, "second": 0, None: 0}
        for _ in range(300):
            sieves = []
            while len(sieves) < 2:
                sieve = drawn.sieve(chance, chance.randint(1, 4))
                if len(sieve) <= 40:
                    a = chance.randrange(8)
                    sieves.append(tuple(("set", a, chance.randint(0, 2)) if row[0] == "set" and chance.random() < 0.7 else row
                                        for row in sieve) if chance.random() < 0.8 else (("set", 3, 1), ("keep", 3, 3), ("answer", 3)))
            if len(sieves[0]) + len(sieves[1]) < 80:
                for _ in range(3):
                    seen[self.check(sieves[0], sieves[1], drawn.beginning(chance))] += 1
        self.assertGreater(min(seen["first"], seen["second"]), 50)

    def test_the_second_one_begins_with_noughts(self):
        used = tuple(("set", r, 9) for r in range(8)) + tuple(("keep", 0, k) for k in range(16)) + (
            ("again", 0, 5, 25), ("again", 3, 9, 26), ("set", 0, 1), ("answer", 0))
        run = begun((), (), 4, 0)
        told = joined(used, (("answer", 0),))
        behind = run_on(told, run, 27 + 28)
        while behind[3] < 28 + 28 + 1:
            behind = one_step(told, behind)
        self.assertEqual((behind[:3], behind[8]), (run[:3], None))
        self.assertEqual(answer_of(told, run), ("answer", 0))


class TestFlows(unittest.TestCase):
    def test_a_chain_of_two_and_of_the_joined_one(self):
        chance, tried, seen = random.Random(56), 0, set()
        grant = (0, 12, 1, drawn.KINDS)
        while tried < 40:
            first, second = (drawn.sieve(chance, chance.randint(1, 3)) for _ in range(2))
            first, second = (
                sieve[:-3] + (("set", 0, 1), ("answer", 0), ("answer", 0)) if chance.random() < 0.6 else sieve
                for sieve in (first, second))
            if len(first) + len(second) > 60:
                continue
            links = [link_of(sieve, grant) for sieve in (first, second, joined(first, second))]
            if None in links:
                continue
            tried += 1
            packets = tuple((7, drawn.packet(chance, 0, 12)) for _ in range(4))
            tables = drawn.tables(chance)
            two = flowed(flow_of(tuple(links[:2]), tables, packets), (), 20000)
            one = flowed(flow_of((links[2],), tables, packets), (), 20000)
            self.assertEqual(one[2], two[2])
            plain = [[verdict[:1] + verdict[2:] if verdict[0] != "passed" else verdict for verdict in told[3]] for told in (one, two)]
            self.assertEqual(plain[0], plain[1])
            seen |= {verdict[:2] if verdict[0] != "passed" else verdict[0] for verdict in two[3]}
        self.assertLessEqual({("dropped", 0), ("sent", 0), ("sent", 1), "passed"}, seen)
