"""Point 52: deeds from outside, and free steps."""

import random
import unittest

from suresieves.flows import dealt, flow_of, flowed, free_steps, link_of, tables_of
from tests import drawn, flowdraws
from tests.flowvalues import COUNTING, DROPPING, KINDS, LOOKING, PASSING, SENDING, TABLES, flow
from tests.second_flow import Second
from tests.values import put

HIDDEN = (("drop", 0, 0), ("clear",), ("cut",), ("make", 0, 0), ("settings", (12, 8, 0, 1, 1, 2, 8, 0, 0)))
CELLS, PAIRS = TABLES
SIXTEEN = tuple((2 * key, key) for key in range(16))


def with_pairs(*pairs):
    return (CELLS, ("pairs", 1, pairs))


class DeedCase(unittest.TestCase):
    """Each deed in a still flow, in a flow whose run has done no step, and in one whose run has done one."""

    def flows(self, tables=TABLES):
        still, begun = flow((PASSING,), (), tables), flow((PASSING,), ((1,), (2,)), tables)
        return still, begun, flowed(begun, (), 1)

    def tables_behind(self, flows, deed):
        return [tables_of(dealt(told, deed)) for told in flows]

    def left_alone(self, deed, tables=TABLES):
        for told in self.flows(tables):
            with self.subTest(deed=deed, flow=told):
                self.assertEqual(dealt(told, deed), told)


class TestCellsAndValues(DeedCase):
    def test_done_at_any_time(self):
        for deed, tables in (
            (("cell", 0, 0, 65535), put(TABLES, 0, ("array", 1, (65535, 20)))),
            (("cell", 0, 1, 0), put(TABLES, 0, ("array", 1, (10, 0)))),
            (("cell", 0, 1, 20), TABLES),
            (("value", 1, 5, 9), with_pairs((5, 9), (7, 70))), (("value", 1, 7, 65535), with_pairs((5, 50), (7, 65535))),
        ):
            self.assertEqual(self.tables_behind(self.flows(), deed), [tables] * 3)

    def test_all_else_stays(self):
        for told in self.flows():
            behind = dealt(told, ("cell", 0, 1, 3))
            self.assertEqual(behind[:2] + behind[3:], told[:2] + told[3:])
            if told[2][0] == "run":
                self.assertEqual(behind[2], ("run", 0, put(told[2][2], 5, tables_of(behind))))

    def test_what_is_not_there(self):
        for deed in (("cell", 0, 2, 1), ("cell", 0, 31, 1), ("cell", 1, 0, 1), ("cell", 2, 0, 1), ("cell", 5, 0, 1),
                     ("value", 1, 6, 1), ("value", 1, 0, 1), ("value", 0, 5, 1), ("value", 2, 5, 1), ("value", 1, 50, 1)):
            self.left_alone(deed)

    def test_rights_do_not_matter(self):
        closed = tuple(put(kind, 1, 0) for kind in KINDS)
        link = link_of((("set", 0, 1), ("answer", 0)), (0, 9, 0, closed))
        start = flow((link,), ((1,),))
        self.assertEqual([table[1] for table in tables_of(start)], [0, 0])
        for told in (start, flowed(start, (), 1), flowed(start, (), 9)):
            behind = tables_of(dealt(dealt(told, ("cell", 0, 0, 4)), ("value", 1, 5, 6)))
            self.assertEqual(behind, (("array", 0, (4, 20)), ("pairs", 0, ((5, 6), (7, 70)))))


class TestPairs(DeedCase):
    def test_add_and_off(self):
        for deed, pairs in (
            (("add", 1, 6, 9), ((5, 50), (6, 9), (7, 70))), (("add", 1, 0, 0), ((0, 0), (5, 50), (7, 70))),
            (("add", 1, 65535, 1), ((5, 50), (7, 70), (65535, 1))), (("off", 1, 5), ((7, 70),)), (("off", 1, 7), ((5, 50),)),
        ):
            still, begun, midway = self.tables_behind(self.flows(), deed)
            self.assertEqual((still, begun, midway), (with_pairs(*pairs), with_pairs(*pairs), TABLES))

    def test_the_run_is_begun_anew(self):
        begun = self.flows()[1]
        behind = dealt(begun, ("off", 1, 5))
        self.assertEqual(behind, put(begun, 2, ("run", 0, put(begun[2][2], 5, with_pairs((7, 70))))))

    def test_what_can_not_be_done(self):
        for deed in (("add", 1, 5, 1), ("add", 1, 7, 70), ("add", 0, 1, 1), ("add", 2, 1, 1), ("off", 1, 6), ("off", 0, 5), ("off", 2, 5)):
            self.left_alone(deed)

    def test_sixteen_pairs(self):
        full = with_pairs(*SIXTEEN)
        still = flow((PASSING,), (), full)
        self.assertEqual(dealt(still, ("add", 1, 1, 1)), still)
        fifteen = with_pairs(*SIXTEEN[1:])
        self.assertEqual(tables_of(dealt(flow((PASSING,), (), fifteen), ("add", 1, 0, 0))), full)
        self.assertEqual(tables_of(dealt(still, ("off", 1, 30))), with_pairs(*SIXTEEN[:-1]))

    def test_no_more_than_the_link_has_room_for(self):
        three = with_pairs((1, 1), (2, 2), (3, 3))
        still, begun, midway = self.flows(three)
        self.assertEqual(len(tables_of(dealt(still, ("add", 1, 9, 9)))[1][2]), 4)
        self.assertEqual(dealt(begun, ("add", 1, 9, 9)), begun)
        self.assertEqual(dealt(midway, ("add", 1, 9, 9)), midway)

    def test_may_stays_that_of_the_link(self):
        closed = link_of((("set", 0, 1), ("answer", 0)), (0, 9, 0, (KINDS[0], ("pairs", 0, 3))))
        behind = dealt(flow((closed,), ((1,),)), ("add", 1, 6, 9))
        self.assertEqual(tables_of(behind)[1][:2], ("pairs", 0))
        self.assertEqual(len(tables_of(behind)[1][2]), 3)


class TestExchange(DeedCase):
    def test_another_link(self):
        start = flow((PASSING, DROPPING, SENDING), ((1,), (2,)))
        for told in (start, flowed(start, (), 1), flowed(start, (), 99)):
            behind = dealt(told, ("exchange", 1, SENDING))
            self.assertEqual(behind, put(told, 0, (PASSING, SENDING, SENDING)))

    def test_the_link_at_hand(self):
        start = flow((PASSING,), ((1,), (2,)))
        behind = dealt(start, ("exchange", 0, SENDING))
        self.assertEqual(behind[0], (SENDING,))
        self.assertEqual(behind[2], ("run", 0, put(start[2][2], 9, 0)))
        self.assertEqual(behind[1:2] + behind[3:], start[1:2] + start[3:])
        midway = flowed(start, (), 1)
        self.assertEqual(dealt(midway, ("exchange", 0, SENDING)), midway)

    def test_may_and_rights_are_those_of_the_new_link(self):
        closed = link_of((("answer", 0),), (1, 1, 0, (("array", 0, 2), ("pairs", 0, 2))))
        behind = dealt(flow((PASSING,), ((1,),)), ("exchange", 0, closed))
        self.assertEqual(tables_of(behind), tuple(put(table, 1, 0) for table in TABLES))
        self.assertEqual(behind[2][2][9], 0)

    def test_a_link_that_does_not_fit(self):
        start = flow((PASSING,), ((), (2,)))
        long = link_of((("answer", 0),), (2, 9, 1, KINDS))
        few = link_of((("answer", 0),), (0, 9, 1, KINDS[:1]))
        for link in (SENDING, long, few):
            self.assertEqual(dealt(start, ("exchange", 0, link)), start)
            still = flow((PASSING,), ())
            self.assertEqual(dealt(still, ("exchange", 0, link)), put(still, 0, (link,)))

    def test_no_such_link(self):
        for index in (1, 2, 3):
            self.left_alone(("exchange", index, SENDING))

    def test_counts_stay(self):
        start = flowed(flow((COUNTING,), ((1,), (2,))), (), 3)
        behind = dealt(start, ("exchange", 0, DROPPING))
        self.assertEqual(behind[4], ((1, 0, 0, 0, 3),))
        self.assertEqual(flowed(behind, (), 9)[4], ((1, 1, 0, 0, 4),))


class TestHidden(DeedCase):
    def test_they_leave_a_flow_alone(self):
        for deed in HIDDEN:
            self.left_alone(deed)
        start = self.flows()[1]
        deeds = tuple((at, deed) for at in (0, 1, 2) for deed in HIDDEN)
        for steps in range(6):
            self.assertEqual(flowed(start, deeds, steps), flowed(start, (), steps))


class TestPlainFlow(DeedCase):
    def test_due_ahead_of_each_step(self):
        start = flow((COUNTING,), ((1,), (2,)))
        # The cell is counted by the steps at TOTAL 0 and 3.
        for at, word in ((0, 7), (1, 6), (2, 6), (3, 6), (4, 5), (5, 5)):
            told = flowed(start, ((at, ("cell", 0, 0, 5)),), 99)
            self.assertEqual(tables_of(told), put(TABLES, 0, ("array", 1, (word, 20))), at)
        # At TOTAL 6 it is still: no deed is done any more.
        for at in (6, 7, 99):
            self.assertEqual(flowed(start, ((at, ("cell", 0, 0, 5)),), 99), flowed(start, (), 99))

    def test_in_their_order(self):
        start = flow((PASSING,), ((1,),))
        deeds = ((1, ("cell", 0, 0, 5)), (1, ("cell", 0, 0, 6)), (1, ("cell", 0, 1, 7)))
        self.assertEqual(tables_of(flowed(start, deeds, 2))[0], ("array", 1, (6, 7)))
        self.assertEqual(tables_of(flowed(start, deeds, 1)), TABLES)
        pairs = ((0, ("add", 1, 6, 1)), (0, ("value", 1, 6, 2)), (0, ("off", 1, 5)))
        self.assertEqual(tables_of(flowed(start, pairs, 1)), with_pairs((6, 2), (7, 70)))

    def test_those_behind_are_not_done(self):
        start = flowed(flow((PASSING,), ((1,), (2,))), (), 2)
        self.assertEqual(start[5], 2)
        deeds = ((0, ("cell", 0, 0, 5)), (1, ("cell", 0, 0, 5)), (2, ("cell", 0, 1, 5)))
        self.assertEqual(tables_of(flowed(start, deeds, 1))[0], ("array", 1, (10, 5)))

    def test_none_for_no_steps_and_still_flows(self):
        start, still = flow((PASSING,), ((1,),)), flow((PASSING,), ())
        for told, steps in ((start, 0), (still, 0), (still, 9)):
            self.assertEqual(flowed(told, ((0, ("cell", 0, 0, 5)), (0, ("exchange", 0, DROPPING))), steps), told)

    def test_each_deed_at_each_total(self):
        # The first link is at hand at TOTAL 0 and 1, 5 and 6, the second one at 2 to 4, 7 to 9: then it is still.
        parts = (PASSING, COUNTING), TABLES, ((0, (5,)), (1, (6,)))
        for deed, done in (
            (("add", 1, 6, 9), (0, 2, 5, 7)), (("off", 1, 5), (0, 2, 5, 7)), (("value", 1, 5, 9), range(10)),
            (("cell", 0, 1, 9), range(10)), (("exchange", 0, LOOKING), (0, 2, 3, 4, 5, 7, 8, 9)),
            (("exchange", 1, LOOKING), (0, 1, 2, 5, 6, 7)), (("exchange", 2, LOOKING), ()), (("off", 1, 6), ()),
        ):
            for at in range(12):
                with self.subTest(deed=deed, at=at):
                    told = flowed(flow_of(*parts), ((at, deed),), 100)
                    self.assertEqual(told, Second(*parts).go(((at, deed),), 100).flow())
                    self.assertEqual(told != flowed(flow_of(*parts), (), 100), at in done)

    def test_drawn(self):
        chance, changed = random.Random(53), 0
        for _ in range(150):
            parts = flowdraws.chain(chance), drawn.tables(chance), flowdraws.arrivals(chance)
            start, second = flow_of(*parts), Second(*parts)
            for _ in range(4):
                deeds = flowdraws.deeds(chance, start[5], start[5] + 30)
                steps = chance.choice((1, 5, 40))
                plain = flowed(start, (), steps)
                start = flowed(start, deeds, steps)
                changed += start != plain
                self.assertEqual(start, second.go(deeds, steps).flow())
                deed = flowdraws.shown_deed(chance)
                start = dealt(start, deed)
                second.deal(deed)
                self.assertEqual(start, second.flow())
        self.assertGreater(changed, 60)

    def test_no_fault_whatever_deeds_come(self):
        chance = random.Random(54)
        for _ in range(60):
            told = flow_of(flowdraws.chain(chance), drawn.tables(chance), flowdraws.arrivals(chance))
            while told[2][0] == "run":
                told = flowed(told, flowdraws.deeds(chance, told[5], told[5] + 3), chance.randint(1, 3))
                if told[2][0] == "run":
                    self.assertIsNone(told[2][2][8])


class TestFreeSteps(DeedCase):
    def test_up_to_the_next_deed(self):
        start = flowed(flow((COUNTING,), ((1,), (2,), (3,))), (), 4)
        for deeds, steps, free in (
            ((), 9, 9), ((), 0, 0), ((), 20000, 20000), (((4, ("cut",)),), 9, 9), (((3, ("cut",)),), 9, 9),
            (((5, ("cut",)),), 9, 1), (((5, ("cut",)),), 0, 0), (((6, ("clear",)), (9, ("cut",))), 9, 2),
            (((4, ("clear",)), (13, ("cut",))), 9, 9), (((12, ("cell", 0, 0, 0)),), 9, 8), (((10 ** 99, ("cut",)),), 9, 9),
        ):
            self.assertEqual(free_steps(start, deeds, steps), free)

    def test_still(self):
        self.assertEqual(free_steps(flow((PASSING,), ()), ((5, ("cut",)),), 9), 0)
