"""Points 49 to 51: links and flows."""

import random
import unittest

from suresieves.errors import InvalidChain, TooMany
from suresieves.flows import are_deeds, are_settings, fed, flow_of, flowed, is_link, link_of, steps_left, tables_of
from suresieves.inspector import steps_bound, takes_table, told_table, verdict
from suresieves.known import is_known_state
from tests import drawn, flowdraws
from tests.flowvalues import COUNTING, DROPPING, KINDS, LOOKING, PASS, PASSING, SEND, SENDING, TABLES, WIDE, flow
from tests.second_flow import Second, second_flow
from tests.values import STRANGE, put

ANY = (0, 65535, 0, 0, None, None, None)
BOUNDS = flowdraws.SETTING_BOUNDS


class TestLinks(unittest.TestCase):
    def test_link_of(self):
        chance, let_by, none = random.Random(1), 0, 0
        for _ in range(150):
            sieve, grant = drawn.sieve(chance, 3), (0, chance.choice((0, 5, 12)), 1, drawn.KINDS)
            told, link = verdict(sieve, grant), link_of(sieve, grant)
            if told[0] == "let by":
                let_by += 1
                self.assertEqual(link[:2], (sieve, grant))
                self.assertTrue(takes_table(sieve, grant, link[2]) and is_link(link))
            else:
                none += 1
                self.assertIsNone(link)
        self.assertGreater(min(let_by, none), 20)
        self.assertIsNone(link_of((("jump", 0),), WIDE))

    def test_each_part(self):
        sieve, grant, table = LOOKING
        self.assertIs(is_link(LOOKING), True)
        wider = put(table, 1, ((ANY,) * 8,) + table[1][1:])
        shown = (table[0], wider[1]) + tuple(None for _ in table[2:])
        for value in (
            (), LOOKING[:2], LOOKING + (None,), list(LOOKING), (list(sieve), grant, table), (sieve, list(grant), table),
            (sieve, grant, list(table)), (sieve[:4], grant, table), (sieve, grant, table[:4]), (sieve, grant, table * 2),
            (sieve, grant, (None,) * 5), (sieve, put(grant, 0, 0), table), (sieve, put(grant, 3, ()), table),
            (sieve, grant, shown), (sieve, grant, put(table, 4, None)), (put(sieve, 0, ("byte", 1, 0, 1)), grant, table),
            (put(sieve, 2, ("jump", 2)), grant, table), (sieve, grant, put(table, 2, 0)),
        ):
            with self.subTest(value=value):
                self.assertIs(is_link(value), False)

    def test_any_table_that_the_judge_takes(self):
        sieve, grant, table = PASSING
        self.assertTrue(is_known_state(table[1]))
        wide = (put(table[0], 3, (0, 256)), ((ANY,) * 8, (ANY,) * 16, ((0, 100),) * 4, (0, 256)))
        self.assertTrue(takes_table(sieve, grant, wide))
        self.assertIs(is_link((sieve, grant, wide)), True)
        chain = ((sieve, grant, wide),)
        self.assertEqual(flowed(flow_of(chain, TABLES, ((0, (1,)),)), (), 9)[3], (("passed", (1,)),))


class TestSettings(unittest.TestCase):
    LEAST = tuple(least for least, _ in BOUNDS)
    MOST = tuple(most for _, most in BOUNDS)

    def test_bounds(self):
        for right in (self.LEAST, self.MOST):
            self.assertIs(are_settings(right), True)
            for k in range(9):
                for number in range(-2, 45):
                    told = put(right, k, number)
                    self.assertIs(are_settings(told), BOUNDS[k][0] <= number <= BOUNDS[k][1], told)
                for value in STRANGE + ((), 10 ** 300):
                    self.assertIs(are_settings(put(right, k, value)), False)

    def test_others(self):
        for value in STRANGE + ((), 0, self.LEAST[:8], self.LEAST + (0,), list(self.LEAST)):
            self.assertIs(are_settings(value), False)


class TestDeedForms(unittest.TestCase):
    RIGHT = (
        ("cell", 0, 0, 0), ("cell", 5, 31, 65535), ("value", 0, 0, 0), ("value", 5, 65535, 65535), ("add", 0, 0, 0),
        ("add", 5, 65535, 65535), ("off", 0, 0), ("off", 5, 65535), ("exchange", 0, PASSING), ("exchange", 3, LOOKING),
        ("drop", 0, 0), ("drop", 3, 119), ("clear",), ("cut",), ("make", 0, 0), ("make", 3, 119),
        ("settings", TestSettings.LEAST), ("settings", TestSettings.MOST),
    )

    def test_each_bound(self):
        for deed in self.RIGHT:
            with self.subTest(deed=deed):
                self.assertIs(are_deeds(((0, deed),)), True)
                self.assertIs(are_deeds(((0, deed + (0,)),)), False)
                self.assertIs(are_deeds(((0, deed[:-1]),)), False)
                self.assertIs(are_deeds(((0, list(deed)),)), False)
                for k in range(1, len(deed)):
                    beyond = (-1, deed[k] + 1) if isinstance(deed[k], int) and deed[k] else (-1, 65536)
                    for value in STRANGE + ((), 10 ** 300) + beyond:
                        self.assertIs(are_deeds(((0, put(deed, k, value)),)), False)
                for value in STRANGE + ((), "Cell", "cells", 0):
                    self.assertIs(are_deeds(((0, put(deed, 0, value)),)), False)

    def test_links_and_settings_within(self):
        for value in (PASSING[:2], put(PASSING, 1, (0, 64, 1)), put(LOOKING, 2, (None,) * 5), None):
            self.assertIs(are_deeds(((0, ("exchange", 0, value)),)), False)
        self.assertIs(are_deeds(((0, ("settings", put(TestSettings.MOST, 1, 41))),)), False)

    def test_at(self):
        cut = ("cut",)
        for ats, are in (((0, 0, 1), True), ((3, 3, 3), True), ((0, 10 ** 300), True), ((1, 0), False),
                         ((0, 5, 4), False), ((-1,), False), ((True,), False), ((0, None), False), (("0",), False)):
            with self.subTest(ats=ats):
                self.assertIs(are_deeds(tuple((at, cut) for at in ats)), are)

    def test_how_many(self):
        self.assertIs(are_deeds(()), True)
        self.assertIs(are_deeds(((0, ("cut",)),) * 50), True)
        self.assertIs(are_deeds(((0, ("cut",)),) * 51), False)
        for value in STRANGE[:-9] + (0, ((0,),), (((0, ("cut",)), 1),), ((0, ("cut",), 0),), ([0, ("cut",)],)):
            if value != ():
                self.assertIs(are_deeds(value), False)


class TestByHand(unittest.TestCase):
    def test_nothing_comes(self):
        self.assertEqual(flow((PASSING,), ()), ((PASSING,), (), ("still", TABLES), (), ((0,) * 5,), 0))
        self.assertEqual(steps_left(flow((PASSING,), ())), 0)

    def test_the_first_is_brought(self):
        first = flow((LOOKING, PASSING), ((5,), (6,)))
        self.assertEqual(first[1], ((1, (6,)),))
        self.assertEqual(first[2][:2], ("run", 0))
        self.assertEqual(first[2][2][3:], (0, (5,), TABLES, 0, 0, None, 0))
        self.assertEqual(first[3:], ((), ((0,) * 5,) * 2, 0))

    def test_verdicts_and_counts(self):
        tables = put(TABLES, 1, ("pairs", 1, ((5, 1), (7, 70), (9, 0))))
        end = flowed(flow((LOOKING, SENDING), ((5, 8), (7,), (9,), (8,), (5,)), tables), (), 100)
        self.assertEqual(end[3], (("sent", 1, 7, (5, 8)), ("sent", 0, 70, (7,)), ("dropped", 0), ("dropped", 0), ("sent", 1, 7, (5,))))
        self.assertEqual(end[4], ((2, 2, 1, 0, 24), (0, 0, 2, 0, 8)))
        self.assertEqual((end[1], end[2], end[5]), ((), ("still", put(tables, 1, ("pairs", 1, tables[1][2]))), 32))

    def test_left_out(self):
        end = flowed(flow((SENDING, PASSING, LOOKING), ((), (1,), ())), (), 100)
        self.assertEqual(end[3], (("passed", ()), ("sent", 0, 3, (1,)), ("passed", ())))
        self.assertEqual(end[4], ((0, 0, 1, 2, 4), (2, 0, 0, 0, 4), (0, 0, 0, 2, 0)))

    def test_packets_that_fit_no_link(self):
        told = flow((SENDING, LOOKING), ((), (), ()))
        self.assertEqual(told[3], (("passed", ()),) * 3)
        self.assertEqual(told[4], ((0, 0, 0, 3, 0),) * 2)
        self.assertEqual(told[2], ("still", TABLES))

    def test_tables_that_do_not_fit(self):
        for tables in ((), TABLES[:1], TABLES + TABLES[:1], TABLES[::-1], put(TABLES, 0, ("array", 1, (1,))),
                       put(TABLES, 1, ("pairs", 1, ((1, 1), (2, 2), (3, 3), (4, 4))))):
            told = flow((PASSING,), ((1,),), tables)
            self.assertEqual((told[2], told[3], told[4]), (("still", tables), (("passed", (1,)),), ((0, 0, 0, 1, 0),)))

    def test_may_is_that_of_the_link(self):
        shut = tuple(put(table, 1, 0) for table in TABLES)
        first = flow((PASSING,), ((1,),), shut)
        self.assertEqual(tables_of(first), TABLES)
        self.assertEqual(tables_of(flowed(first, (), 9)), TABLES)
        closed = link_of(PASS, (0, 64, 0, (("array", 0, 2), ("pairs", 1, 3))))
        self.assertEqual(tables_of(flowed(flow((closed,), ((1,),), TABLES), (), 9)), put(TABLES, 0, ("array", 0, (10, 20))))
        # Left out, tables stay as they were, MAY and all; so does what is further than the kinds.
        long = link_of(PASS, (5, 64, 0, (("array", 0, 2), ("pairs", 0, 3))))
        self.assertEqual(tables_of(flow((long, PASSING), ((1,),), shut)), TABLES)
        self.assertEqual(flow((long,), ((1,),), TABLES)[2], ("still", TABLES))
        self.assertEqual(flow((closed,), ((1,),), TABLES + shut)[2], ("still", TABLES + shut))

    def test_what_a_run_begins_with(self):
        for link, writable in ((PASSING, 1), (LOOKING, 0)):
            run = flow((link,), ((1,),))[2][2]
            self.assertEqual((run[6], run[9], run[7], run[8]), (0, writable, 0, None))
        second = flowed(flow((PASSING, LOOKING), ((1,), (1,))), (), 2)
        self.assertEqual(second[2][:2], ("run", 1))
        self.assertEqual(second[2][2][:4], ((0,) * 8, (0,) * 16, (0,) * 4, 0))
        self.assertEqual(second[2][2][9], 0)

    def test_the_clock_goes_along(self):
        clocks = link_of((("ask", 0, "clock", 0), ("answer", 0)), WIDE)
        end = flowed(flow_of((PASSING, clocks), TABLES, ((9, ()), (1, ()), (0, ()), (65535, ()))), (), 100)
        self.assertEqual(end[3], (("sent", 1, 9, ()), ("passed", ()), ("dropped", 1), ("sent", 1, 65535, ())))

    def test_tables_go_along(self):
        end = flowed(flow((COUNTING, COUNTING), ((1,), (2,), (3,))), (), 100)
        self.assertEqual(tables_of(end)[0], ("array", 1, (16, 20)))
        self.assertEqual(tables_of(flowed(end, (), 5)), tables_of(end))

    def test_steps(self):
        start = flow((COUNTING, DROPPING), ((1,), (2,)))
        self.assertEqual(flowed(start, (), 0), start)
        for total in range(10):
            told = flowed(start, (), total)
            self.assertEqual(told[5], min(total, 8))
            self.assertEqual(sum(counts[4] for counts in told[4]), told[5])
            self.assertEqual(flowed(flowed(start, (), total), (), 9 - total), flowed(start, (), 9))


class TestFeeding(unittest.TestCase):
    def test_more_that_wait(self):
        start = flow((PASSING,), ((1,),))
        told = fed(start, ((8, (2,)), (9, (3,))))
        self.assertEqual(told, put(start, 1, ((8, (2,)), (9, (3,)))))
        self.assertEqual(fed(told, ()), told)

    def test_brought_if_it_was_still(self):
        still = flowed(flow((PASSING,), ((1,),)), (), 9)
        told = fed(still, ((8, (2,)), (9, (3,))))
        self.assertEqual((told[1], told[2][:2], told[2][2][4], told[3]), (((9, (3,)),), ("run", 0), (2,), still[3]))
        self.assertEqual(fed(still, ()), still)
        self.assertEqual(flowed(told, (), 9)[3], (("passed", (1,)), ("passed", (2,)), ("passed", (3,))))

    def test_all_left_out(self):
        still = flow((SENDING,), ())
        self.assertEqual(fed(still, ((0, ()), (0, ())))[3:5], ((("passed", ()),) * 2, ((0, 0, 0, 2, 0),)))

    def test_fifty(self):
        one = flow((PASSING,), ((1,),))
        full = fed(one, ((0, (2,)),) * 50)
        self.assertEqual(len(full[1]), 50)
        for waiting, more in ((full, 1), (full, 50), (fed(one, ((0, ()),) * 3), 48)):
            with self.assertRaises(TooMany) as caught:
                fed(waiting, ((0, (2,)),) * more)
            self.assertEqual(vars(caught.exception), {"given": len(waiting[1]) + more})
        still = flow((PASSING,), ())
        self.assertEqual(len(fed(still, ((0, (2,)),) * 50)[1]), 49)
        self.assertEqual(len(flow_of((PASSING,), TABLES, ((0, (2,)),) * 50)[1]), 49)


class TestSecondWay(unittest.TestCase):
    def test_drawn(self):
        chance, verdicts, left_out = random.Random(50), {"passed": 0, "dropped": 0, "sent": 0}, 0
        for _ in range(120):
            parts = flowdraws.chain(chance), drawn.tables(chance), flowdraws.arrivals(chance)
            start, second = flow_of(*parts), Second(*parts)
            self.assertEqual(start, second.flow())
            for steps in (1, chance.randint(1, 30), chance.randint(1, 100), 20000):
                start = flowed(start, (), steps)
                self.assertEqual(start, second.go((), steps).flow())
            for told in start[3]:
                verdicts[told[0]] += 1
            left_out += sum(counts[3] for counts in start[4])
        self.assertGreater(min(verdicts.values()), 30)
        self.assertGreater(left_out, 30)

    def test_still_within_the_bounds(self):
        chance, exact = random.Random(51), 0
        for _ in range(80):
            chain, packets = flowdraws.chain(chance), flowdraws.arrivals(chance)
            start = flow_of(chain, drawn.tables(chance), packets)
            bounds = [steps_bound(link[0]) for link in chain]
            at_hand = sum(bounds[start[2][1]:]) if start[2][0] == "run" else 0
            self.assertEqual(steps_left(start), at_hand + len(start[1]) * sum(bounds))
            told = start
            while told[2][0] == "run":
                before = steps_left(told)
                told = flowed(told, (), chance.randint(1, 9))
                self.assertLessEqual(steps_left(told), before)
            self.assertEqual(steps_left(told), 0)
            self.assertLessEqual(told[5], steps_left(start))
            self.assertEqual(flowed(start, (), min(20000, steps_left(start))), told)
        for link, packets in ((PASSING, 3), (SENDING, 2)):
            start = flow((link,), ((1,),) * packets)
            exact += steps_left(start)
            self.assertEqual(flowed(start, (), 20000)[5], steps_left(start))
        self.assertEqual(exact, 3 * 2 + 2 * 4)

    def test_each_packet_alone(self):
        chance = random.Random(52)
        for _ in range(60):
            chain, tables, packets = flowdraws.chain(chance), drawn.tables(chance), flowdraws.arrivals(chance)
            end = flowed(flow_of(chain, tables, packets), (), 20000)
            verdicts, counts = (), [(0,) * 5 for _ in chain]
            for arrival in packets:
                alone = flowed(flow_of(chain, tables, (arrival,)), (), 20000)
                tables = tables_of(alone)
                verdicts += alone[3]
                counts = [tuple(map(sum, zip(one, two))) for one, two in zip(counts, alone[4])]
            self.assertEqual((end[3], end[4], tables_of(end)), (verdicts, tuple(counts), tables))

    def test_second_way_is_the_flow_of_the_document(self):
        chain = (link_of(SEND, (1, 10, 0, KINDS)),)
        told = second_flow(chain, TABLES, ((0, (7,)), (0, ())), (), 100)
        self.assertEqual(told[3:], ((("sent", 0, 9, (7,)), ("passed", ())), ((0, 0, 1, 1, 4),), 4))


class TestChains(unittest.TestCase):
    def test_how_many_links(self):
        self.assertEqual(len(flow((PASSING,) * 4)[4]), 4)
        for chain, index in (((), None), ((PASSING,) * 5, None), ([PASSING], None), ((PASSING, PASSING[:2]), 1)):
            with self.assertRaises(InvalidChain) as caught:
                flow_of(chain, (), ())
            self.assertEqual(caught.exception.index, index)

    def test_four_links_in_order(self):
        chain = (PASSING, COUNTING, PASSING, SENDING)
        end = flowed(flow(chain, ((9,),)), (), 100)
        self.assertEqual((end[3], end[5]), ((("sent", 3, 11, (9,)),), 2 + 3 + 2 + 4))
        self.assertEqual(told_table(SEND, (1, 64, 0, KINDS)), SENDING[2])
