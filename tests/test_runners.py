"""Points 54 to 57: runners, step by step, and beside the plain flow."""

import random
import unittest

from suresieves.flows import dealt, fed, flow_of, flowed, link_of
from suresieves.forms import form_of
from suresieves.judge import takes
from suresieves.making import made
from suresieves.rewritings import better, led_through
from suresieves.runners import deeded, fed_runner, is_runner, kept, leap, led, links, shown, started, tale, tally
from tests import drawn, flowdraws
from tests.flowvalues import DROPPING, KINDS, PASSING, SENDING, TABLES, flow
from tests.second_runner import SecondRunner
from tests.values import put

# Rows 0 to 3 are a block, 2 and 3, and the row 4: 2 steps, five times two, and one more.
LOOP = (("set", 1, 3), ("begin", 0), ("addn", 0, 2), ("again", 0, 4, 2), ("answer", 0))
LOOPING = link_of(LOOP, (0, 64, 0, KINDS))
# Places 0, 2, 4 and so on are blocks of two rows; so the row 10.
STAIRS = tuple(row for place in range(2, 12, 2) for row in (("addn", 0, 1), ("jump", place))) + (("answer", 0),)
CLIMBING = link_of(STAIRS, (0, 64, 0, KINDS))
# The byte at place 1 is known to be there; boundary 1 may be left only where that is not used.
BYTE = (("set", 0, 0), ("byte", 1, 0, 2), ("addn", 1, 3), ("whenn", "same", 1, 0, 4), ("answer", 1))
READING = link_of(BYTE, (3, 64, 0, KINDS))


def settings(limit=12, room=40, heat=0, chained=1, short=1, grade=3, cells=8, victim=0, grain=0):
    return (limit, room, heat, chained, short, grade, cells, victim, grain)


class RunnerCase(unittest.TestCase):
    def runner(self, links_of_chain, packets=((),), **told):
        return started(flow(links_of_chain, packets), settings(**told))

    def part(self, runner, name):
        return runner[("flow", "settings", "kept", "comes", "from", "next", "tally").index(name)]


class TestStarting(RunnerCase):
    def test_started(self):
        start = flow((PASSING,), ((1,),))
        runner = started(start, settings())
        self.assertEqual(runner, (start, settings(), (), (), 0, 1, (0,) * 7))
        self.assertEqual((shown(runner), tally(runner), kept(runner), links(runner)), (start, (0,) * 7, (), ()))
        self.assertIs(is_runner(start, runner), True)

    def test_nothing_to_be_done(self):
        still = started(flow((PASSING,), ()), settings())
        running = self.runner((PASSING,))
        deeds = ((0, ("exchange", 0, DROPPING)), (0, ("make", 0, 0)))
        for runner, steps in ((still, 5), (running, 0), (still, 0)):
            self.assertEqual(leap(runner, deeds, steps), runner)
            self.assertEqual(led(runner, deeds, steps), runner)
            self.assertEqual(tale(runner, deeds, steps), ())


class TestLooking(RunnerCase):
    def test_the_loop(self):
        runner = self.runner((LOOPING,))
        self.assertEqual(tale(runner, (), 100), (
            ("made", 1, 0, 0, 4), ("entered", 1, 0, 4, "end"),
            ("made", 2, 0, 2, 2), ("linked", 1, 2, 2), ("entered", 2, 4, 2, "end"),
            ("linked", 2, 2, 2), ("entered", 2, 6, 2, "end"), ("entered", 2, 8, 2, "end"), ("entered", 2, 10, 2, "end"),
            ("made", 3, 0, 4, 1), ("linked", 2, 4, 3), ("entered", 3, 12, 1, "end"),
        ))
        end = led(runner, (), 100)
        self.assertEqual(tally(end), (0, 13, 3, 6, 2, 0, 0))
        self.assertEqual(kept(end), ((1, 0, 0, 4), (2, 0, 2, 2), (3, 0, 4, 1)))
        self.assertEqual(links(end), ((1, 2, 2), (2, 2, 2), (2, 4, 3)))
        self.assertEqual([block[7] for block in self.part(end, "kept")], [1, 5, 6])
        self.assertEqual((self.part(end, "from"), self.part(end, "next"), self.part(end, "comes")), (0, 4, ()))
        self.assertEqual(shown(end), flowed(shown(runner), (), 100))

    def test_the_second_packet_goes_by_links(self):
        end = led(self.runner((LOOPING,), ((), ())), (), 100)
        self.assertEqual(tally(end), (0, 26, 3, 12, 7, 0, 0))
        # Behind an end FROM is 0, so the first block is looked for, not linked.
        self.assertEqual(links(end), ((1, 2, 2), (2, 2, 2), (2, 4, 3)))

    def test_from(self):
        runner = self.runner((LOOPING,))
        for steps, source in ((0, 0), (3, 0), (4, 1), (5, 0), (6, 2), (12, 2), (13, 0)):
            self.assertEqual(self.part(led(runner, (), steps), "from"), source, steps)

    def test_not_chained(self):
        end = led(self.runner((LOOPING,), ((), ()), chained=0), (), 100)
        self.assertEqual((links(end), tally(end)), ((), (0, 26, 3, 12, 0, 0, 0)))
        # FROM is told all the same.
        self.assertEqual(self.part(led(self.runner((LOOPING,), chained=0), (), 4), "from"), 1)
        # What was linked before is not looked at, and links stay.
        middle = deeded(led(self.runner((LOOPING,)), (), 8), ("settings", settings(chained=0)))
        behind = led(middle, (), 2)
        self.assertEqual((links(behind), tally(behind)[4]), (links(middle), 0))
        self.assertEqual(tally(led(led(self.runner((LOOPING,)), (), 8), (), 2))[4], 1)

    def test_heat(self):
        packets = ((),) * 5
        for heat in (0, 1, 2, 3, 4):
            runner = self.runner((DROPPING,), packets, heat=heat)
            for steps in range(6):
                told = led(runner, (), steps)
                made_one = steps > heat
                self.assertEqual(tally(told)[:4], (min(steps, heat), max(0, steps - heat), int(made_one), max(0, steps - heat)))
                comes = ((((0, 0), steps),) if 0 < steps <= heat else ())
                self.assertEqual(self.part(told, "comes"), comes)
        self.assertEqual(tale(self.runner((DROPPING,), packets, heat=9), (), 9), tuple(("step", at, 0, 0) for at in range(5)))

    def test_each_place_is_come_to_by_itself(self):
        told = led(self.runner((LOOPING,), ((), ()), heat=2), (), 9)
        # Rows 0 to 3, 2, 3, then 2 is made at its third time; 3 is within its block.
        self.assertEqual(self.part(told, "comes"), (((0, 0), 1), ((0, 1), 1), ((0, 3), 2)))
        self.assertEqual(kept(told), ((1, 0, 2, 2),))
        # With one step left its block has no boundary to be left at.
        self.assertEqual(tally(told)[:4], (7, 2, 1, 1))

    def test_comes_of_more_heat_than_is_told_now(self):
        runner = led(self.runner((DROPPING,), ((),) * 20, heat=9), (), 9)
        self.assertEqual(self.part(runner, "comes"), (((0, 0), 9),))
        self.assertIs(is_runner(shown(runner), runner), True)
        for heat in (9, 3, 0):
            behind = led(deeded(runner, ("settings", settings(heat=heat))), (), 1)
            self.assertEqual((tally(behind)[2], self.part(behind, "comes")), (1, ()))


class TestMaking(RunnerCase):
    def form(self, place, grade, **told):
        block = self.part(leap(self.runner((READING,), ((4, 5, 6),), grade=grade, **told), (), 9), "kept")[0]
        self.assertEqual(block[1:3], (0, place))
        self.assertEqual(block[6], made(block[5], told.get("cells", 8)))
        self.assertTrue(takes(block[5], block[6]))
        return block[4:6]

    def test_grades(self):
        plain = form_of(BYTE, 0, 12)
        self.assertEqual(self.form(0, 0), ((), plain))
        for grade, kept_boundaries, sure in ((1, (0, 1, 2, 3, 4), ()), (2, (), ()), (3, (), (1,))):
            form, steps = better(plain, kept_boundaries, sure)
            self.assertEqual(self.form(0, grade), (steps, form))
            self.assertEqual(led_through(plain, steps, (1,)), form)
        told = [len([one for one in self.form(0, grade)[1][3] if one]) for grade in range(4)]
        self.assertEqual(told, [5, 5, 3, 2])

    def test_limits_and_cells(self):
        for limit in range(1, 13):
            self.assertEqual(self.form(0, 0, limit=limit)[1], form_of(BYTE, 0, limit))
        for cells in range(4, 13):
            self.form(0, 3, cells=cells)

    def test_serials(self):
        end = led(self.runner((CLIMBING, CLIMBING), ((), ()), room=2), (), 44)
        self.assertEqual(self.part(end, "next"), tally(end)[2] + 1)
        self.assertEqual([block[0] for block in self.part(end, "kept")], [tally(end)[2] - 1, tally(end)[2]])


class TestRoom(RunnerCase):
    def crowded(self, steps, packets=((),), **told):
        """Which block goes ahead of which one is made."""
        events = tale(self.runner((CLIMBING,), packets, **told), (), steps)
        return [event[:2] for event in events if event[0] in ("made", "crowded")]

    def test_the_eldest(self):
        self.assertEqual(self.crowded(8, room=2), [
            ("made", 1), ("made", 2), ("crowded", 1), ("made", 3), ("crowded", 2), ("made", 4)])

    def test_the_one_entered_longest_ago(self):
        start = led(self.runner((CLIMBING,), ((), ()), room=6, victim=1), (), 11)
        self.assertEqual([block[7] for block in self.part(start, "kept")], [1, 2, 3, 4, 5, 6])
        # The first three are entered again; then for room for three the fourth to sixth go.
        later = led(start, (), 6)
        self.assertEqual([block[7] for block in self.part(later, "kept")], [7, 8, 9, 4, 5, 6])
        told = tale(later, ((17, ("settings", settings(room=3, victim=1))),), 1)
        self.assertEqual(told[1:4], (("crowded", 4), ("crowded", 5), ("crowded", 6)))

    def test_like_last_by_serial(self):
        runner = self.runner((CLIMBING,), room=40, victim=1)
        for place in (4, 2, 6):
            runner = deeded(runner, ("make", 0, place))
        behind = deeded(runner, ("settings", settings(room=1, victim=1)))
        self.assertEqual(kept(behind), ((3, 0, 6, 2),))
        self.assertEqual(kept(deeded(runner, ("settings", settings(room=1, victim=0)))), ((3, 0, 6, 2),))
        self.assertEqual(kept(deeded(runner, ("settings", settings(room=1, victim=2)))), ())
        self.assertEqual(tally(behind)[6], 2)

    def test_all(self):
        self.assertEqual(self.crowded(10, room=3, victim=2), [
            ("made", 1), ("made", 2), ("made", 3), ("crowded", 1), ("crowded", 2), ("crowded", 3), ("made", 4), ("made", 5)])

    def test_links_and_from_go_along(self):
        end = led(self.runner((CLIMBING,), room=2), (), 11)
        self.assertEqual((kept(end), links(end)), (((5, 0, 8, 2), (6, 0, 10, 1)), ((5, 10, 6),)))
        # For room for one the block FROM goes ahead of the next one: nothing is linked.
        end = led(self.runner((CLIMBING,), room=1), (), 11)
        self.assertEqual((kept(end), links(end), tally(end)), (((6, 0, 10, 1),), (), (0, 11, 6, 6, 0, 0, 5)))
        # For VICTIM 2 it goes, too.
        self.assertEqual(links(led(self.runner((CLIMBING,), room=2, victim=2), (), 6)), ())

    def test_links_to_what_goes(self):
        runner = led(self.runner((LOOPING,)), (), 12)
        self.assertEqual(links(runner), ((1, 2, 2), (2, 2, 2)))
        behind = deeded(runner, ("drop", 0, 2))
        self.assertEqual((links(behind), self.part(behind, "from"), kept(behind)), ((), 0, ((1, 0, 0, 4),)))
        behind = deeded(runner, ("drop", 0, 0))
        self.assertEqual((links(behind), self.part(behind, "from")), (((2, 2, 2),), 2))


class TestLinks(RunnerCase):
    def test_the_first_one_goes(self):
        """Blocks of a hand-made runner: the fifth link of a block puts the first one out."""
        runner = led(self.runner((CLIMBING,), ((),) * 3), (), 11)
        blocks = self.part(runner, "kept")
        many = ((10, 6), (8, 5), (6, 4), (4, 3))
        runner = put(runner, 2, (put(blocks[0], 8, many),) + blocks[1:])
        self.assertIs(is_runner(shown(runner), runner), True)
        self.assertEqual(led(runner, (), 2)[2][0][8], many)
        for steps in (3, 4, 99):
            self.assertEqual(led(runner, (), steps)[2][0][8], ((8, 5), (6, 4), (4, 3), (2, 2)))

    def test_a_link_is_found_for_its_place_alone(self):
        runner = led(self.runner((CLIMBING,), ((),) * 3), (), 13)
        self.assertEqual((self.part(runner, "from"), tally(runner)[3:5]), (1, (7, 0)))
        told = leap(runner, (), 9)
        self.assertEqual((tally(told)[3:5], links(told)), ((8, 1), links(runner)))

    def test_linked_though_not_entered(self):
        runner = self.runner((CLIMBING,), short=0)
        told = tale(runner, (), 3)
        self.assertEqual(told[2:], (("made", 2, 0, 2, 2), ("linked", 1, 2, 2), ("step", 2, 0, 2)))
        behind = led(runner, (), 3)
        self.assertEqual((links(behind), tally(behind), behind[2][1][7]), (((1, 2, 2),), (1, 2, 2, 1, 0, 0, 0), 0))


class TestEntering(RunnerCase):
    def test_the_greatest_boundary_within_the_free_steps(self):
        for grade, first, short, number in (
            (1, 1, 1, 1), (1, 2, 1, 2), (1, 3, 1, 3), (2, 1, 1, 1), (2, 2, 1, 1), (2, 3, 1, 1), (3, 1, 1, None), (3, 3, 1, None),
            (1, 3, 0, None), (2, 2, 0, None), (0, 4, 0, 4), (2, 4, 0, 4), (3, 4, 0, 4), (3, 9, 1, 4),
        ):
            with self.subTest(grade=grade, steps=first, short=short):
                runner = self.runner((READING,), ((4, 5, 6),), grade=grade, short=short)
                told = tale(runner, (), first)
                if number is None:
                    self.assertEqual(told[1], ("step", 0, 0, 0))
                else:
                    self.assertEqual(told[1], ("entered", 1, 0, number, "end" if number == 4 else "most"))
                self.assertEqual(shown(led(runner, (), first)), flowed(shown(runner), (), first))

    def test_a_deed_to_come_keeps_it_short(self):
        runner = self.runner((READING,), ((4, 5, 6),), grade=1)
        for deed in (("cut",), ("cell", 0, 0, 1), ("exchange", 3, PASSING)):
            told = tale(runner, ((2, deed), (2, deed)), 9)
            self.assertEqual(told[:4], (("made", 1, 0, 0, 4), ("entered", 1, 0, 2, "most"), ("deed", deed), ("deed", deed)))
        self.assertEqual(tale(runner, ((1, ("clear",)), (1, ("clear",))), 1)[1:], (("entered", 1, 0, 1, "most"),))

    def test_from_is_nought_behind_most(self):
        runner = led(self.runner((READING,), ((4, 5, 6),), grade=1), (), 2)
        self.assertEqual((self.part(runner, "from"), tally(runner)), (0, (0, 2, 1, 1, 0, 0, 0)))

    def test_last_and_entered(self):
        runner = led(self.runner((CLIMBING,), ((),) * 2), (), 13)
        self.assertEqual([block[7] for block in self.part(runner, "kept")], [7, 2, 3, 4, 5, 6])
        self.assertEqual(tally(runner)[3], 7)

    def test_packets_go_on_behind_blocks(self):
        packets = ((1,), (), (3,), (0,))
        runner = self.runner((DROPPING, PASSING), packets)
        self.assertEqual(shown(led(runner, (), 9))[3], (("dropped", 0),) * 4)
        runner = self.runner((PASSING, SENDING, PASSING), packets)
        end = led(runner, (), 99)
        self.assertEqual(shown(end), flowed(shown(runner), (), 99))
        self.assertEqual(shown(end)[3], (("sent", 1, 3, (1,)), ("passed", ()), ("sent", 1, 5, (3,)), ("sent", 1, 2, (0,))))
        self.assertEqual(kept(end), ((1, 0, 0, 2), (2, 1, 0, 4), (3, 2, 0, 2)))
        self.assertEqual(tally(end)[0], 0)

    def test_leaps(self):
        runner = self.runner((LOOPING,))
        for total in (4, 6, 8, 10, 12, 13, 13):
            runner = leap(runner, (), 100)
            self.assertEqual(shown(runner)[5], total)


class TestDeeds(RunnerCase):
    def test_exchange_throws_all_of_its_index(self):
        runner = led(self.runner((CLIMBING, LOOPING), ((), ())), (), 11)
        self.assertEqual(shown(runner)[2][:2], ("run", 0))
        for deed, thrown in ((("exchange", 0, PASSING), (1, 2, 3, 4, 5, 6)), (("exchange", 1, PASSING), ()),
                             (("exchange", 0, CLIMBING), (1, 2, 3, 4, 5, 6)), (("exchange", 2, PASSING), ())):
            behind = deeded(runner, deed)
            self.assertEqual(tuple(block[0] for block in kept(behind)), tuple(k for k in range(1, 7) if k not in thrown))
            self.assertEqual(tally(behind)[5], len(thrown))
            self.assertEqual(shown(behind), dealt(shown(runner), deed))
            told = tale(runner, ((11, deed),), 1)
            self.assertEqual(told[0], ("deed", deed))
            self.assertEqual(told[1:1 + len(thrown)], tuple(("thrown", serial) for serial in thrown))
            self.assertNotIn("thrown", [event[0] for event in told[1 + len(thrown):]])

    def test_an_exchange_that_is_not_done_throws_nothing(self):
        runner = led(self.runner((CLIMBING,), ((), ())), (), 4)
        deed = ("exchange", 0, CLIMBING)
        self.assertEqual(deeded(runner, deed), runner)
        self.assertEqual(tale(runner, ((4, deed),), 2)[:2], (("deed", deed), ("made", 3, 0, 4, 2)))
        begun = led(runner, (), 7)
        self.assertEqual(shown(begun)[2][2][7], 0)
        self.assertEqual(kept(deeded(begun, deed)), ())
        self.assertEqual(len(kept(deeded(begun, ("exchange", 0, READING)))), 6)

    def test_of_grain_1_what_still_holds_stays(self):
        other = STAIRS[:4] + (("addn", 0, 9),) + STAIRS[5:]
        shorter = STAIRS[:2] + (("addn", 0, 1), ("answer", 0))
        for sieve, stay in ((other, (1, 2, 4, 5, 6)), (shorter, (1,)), (STAIRS, (1, 2, 3, 4, 5, 6)), (STAIRS[:1] + (("answer", 0),), ())):
            link = link_of(sieve, (0, 64, 0, KINDS))
            runner = led(self.runner((CLIMBING,), ((), ()), grain=1), (), 11)
            behind = deeded(runner, ("exchange", 0, link))
            self.assertEqual(tuple(block[0] for block in kept(behind)), stay)
            self.assertEqual(tally(behind)[5], 6 - len(stay))
            self.assertTrue(all(serial in stay and there in stay for serial, _, there in links(behind)))
            self.assertIs(is_runner(shown(behind), behind), True)
            self.assertEqual(shown(led(behind, (), 99)), flowed(dealt(shown(runner), ("exchange", 0, link)), (), 99))

    def test_of_grain_1_sure_places_count(self):
        # The same rows, but never come to: the table does not show them, so they are not among the sure places.
        there = BYTE[:3] + (("whenn", "same", 1, 7, 5), ("answer", 1), ("byte", 2, 0, 0), ("answer", 2))
        never = BYTE[:3] + (("whenn", "same", 1, 7, 4), ("answer", 1)) + there[5:]
        shown_link, unshown = (link_of(sieve, (3, 64, 0, KINDS)) for sieve in (there, never))
        self.assertIsNone(unshown[2][5])
        for link, grade, is_sure in ((shown_link, 3, True), (unshown, 3, False), (shown_link, 2, False)):
            runner = deeded(self.runner((link,), ((4, 5, 6),), grain=1, grade=grade), ("make", 0, 5))
            self.assertEqual(("sure", 1) in runner[2][0][4], is_sure)
            for other in (shown_link, unshown):
                behind = deeded(runner, ("exchange", 0, other))
                stays = other == shown_link or not is_sure
                self.assertEqual((len(kept(behind)), tally(behind)[5]), (int(stays), int(not stays)))

    def test_drop(self):
        runner = led(self.runner((CLIMBING, LOOPING), ((), ())), (), 11)
        behind = deeded(runner, ("drop", 0, 4))
        self.assertEqual(kept(behind), tuple(block for block in kept(runner) if block[2] != 4))
        self.assertEqual(links(behind), tuple(link for link in links(runner) if 3 not in link[::2]))
        self.assertEqual(put(behind, 2, ()), put(runner, 2, ()))
        for deed in (("drop", 0, 1), ("drop", 1, 4), ("drop", 3, 0), ("drop", 0, 119)):
            self.assertEqual(deeded(runner, deed), runner)

    def test_clear_and_cut(self):
        runner = led(self.runner((LOOPING,), ((), ()), heat=1), (), 12)
        self.assertTrue(runner[2] and runner[3] and runner[4])
        for deed in (("clear",), ("cut",)):
            self.assertEqual(deeded(runner, deed), runner[:2] + ((), (), 0) + runner[5:])
            told = tale(runner, ((12, deed),), 1)
            self.assertEqual([event[0] for event in told], ["deed", "step"])
            still = led(runner, (), 99)
            self.assertEqual(deeded(still, deed), still[:2] + ((), (), 0) + still[5:])

    def test_make(self):
        runner = self.runner((CLIMBING, LOOPING), heat=2, room=2)
        for index, place, many in ((0, 0, 2), (0, 1, 1), (0, 10, 1), (1, 2, 2), (1, 0, 4)):
            behind = deeded(runner, ("make", index, place))
            self.assertEqual((kept(behind), tally(behind)), (((1, index, place, many),), (0, 0, 1, 0, 0, 0, 0)))
            self.assertEqual((behind[2][0][7], behind[3], behind[5]), (0, (), 2))
            self.assertEqual(deeded(behind, ("make", index, place)), behind)
        for deed in (("make", 0, 11), ("make", 1, 5), ("make", 2, 0), ("make", 3, 119)):
            self.assertEqual(deeded(runner, deed), runner)
        three = runner
        for place in (0, 2, 4):
            three = deeded(three, ("make", 0, place))
        self.assertEqual((kept(three), tally(three)), (((2, 0, 2, 2), (3, 0, 4, 2)), (0, 0, 3, 0, 0, 0, 1)))
        told = tale(runner, tuple((0, ("make", 0, place)) for place in (0, 2, 4, 4)), 1)
        self.assertEqual(told, (
            ("deed", ("make", 0, 0)), ("made", 1, 0, 0, 2), ("deed", ("make", 0, 2)), ("made", 2, 0, 2, 2),
            ("deed", ("make", 0, 4)), ("crowded", 1), ("made", 3, 0, 4, 2), ("deed", ("make", 0, 4)), ("step", 0, 0, 0)))

    def test_make_leaves_comes_as_they_are(self):
        runner = led(self.runner((CLIMBING,), ((), ()), heat=9), (), 3)
        behind = deeded(runner, ("make", 0, 0))
        self.assertEqual(behind[3], runner[3])
        self.assertIn(((0, 0), 1), behind[3])

    def test_settings_hold_from_now_on(self):
        runner = led(self.runner((CLIMBING,), ((), ())), (), 6)
        behind = deeded(runner, ("settings", settings(room=1, heat=5, limit=3)))
        self.assertEqual((behind[1], kept(behind), links(behind)), (settings(room=1, heat=5, limit=3), ((3, 0, 4, 2),), ()))
        self.assertEqual((tally(behind)[6], behind[4]), (2, 3))
        told = tale(runner, ((6, ("settings", settings(room=1, heat=5))),), 1)
        self.assertEqual(told[1:], (("crowded", 1), ("crowded", 2), ("step", 6, 0, 6)))
        self.assertEqual(led(runner, ((6, ("settings", settings(limit=1))),), 1)[2][3][3], 1)

    def test_of_one_leap_settings_hold_at_once(self):
        runner = self.runner((CLIMBING,), heat=9)
        told = tale(runner, ((0, ("settings", settings(grade=0))),), 2)
        self.assertEqual(told[1:], (("made", 1, 0, 0, 2), ("entered", 1, 0, 2, "end")))

    def test_due_ones_are_told_whether_they_can_be_done_or_not(self):
        runner = self.runner((DROPPING,), ((), ()))
        deeds = ((0, ("cell", 5, 0, 0)), (0, ("cell", 0, 0, 1)), (1, ("off", 1, 99)), (2, ("cut",)))
        told = tale(runner, deeds, 9)
        self.assertEqual([event for event in told if event[0] == "deed"], [("deed", deed) for _, deed in deeds[:3]])
        self.assertEqual(shown(led(runner, deeds, 9)), flowed(shown(runner), deeds, 9))

    def test_hidden_deeds_show_nothing(self):
        chance = random.Random(57)
        for _ in range(60):
            chain, tables = flowdraws.chain(chance), drawn.tables(chance)
            runner = led(started(flow_of(chain, tables, flowdraws.arrivals(chance)), flowdraws.settings(chance)), (), 20)
            for _ in range(6):
                behind = deeded(runner, flowdraws.hidden_deed(chance))
                self.assertEqual(shown(behind), shown(runner))
                runner = led(behind, (), 3)

    def test_in_a_still_flow(self):
        still = led(self.runner((CLIMBING,)), (), 99)
        behind = deeded(deeded(still, ("cell", 0, 0, 9)), ("exchange", 0, LOOPING))
        self.assertEqual(shown(behind)[2], ("still", (("array", 1, (9, 20)), TABLES[1])))
        self.assertEqual((shown(behind)[0], kept(behind), tally(behind)[5]), ((LOOPING,), (), 6))
        self.assertEqual(kept(deeded(behind, ("make", 0, 2))), ((7, 0, 2, 2),))


class TestFeeding(RunnerCase):
    def test_fed(self):
        runner = led(self.runner((LOOPING,), ((), ())), (), 8)
        for told in (runner, led(runner, (), 99)):
            behind = fed_runner(told, ((3, (1,)), (4, (2,))))
            self.assertEqual(behind, put(told, 0, fed(shown(told), ((3, (1,)), (4, (2,))))))
            self.assertIs(is_runner(shown(behind), behind), True)
        self.assertEqual(fed_runner(runner, ()), runner)


class TestBesideThePlainFlow(RunnerCase):
    def test_drawn(self):
        chance, counted = random.Random(58), [0] * 7
        for number in range(130):
            start = flow_of(flowdraws.chain(chance), drawn.tables(chance), flowdraws.arrivals(chance))
            runner = started(start, flowdraws.settings(chance))
            second = SecondRunner(start, runner[1])
            for _ in range(5):
                deeds = flowdraws.deeds(chance, start[5], start[5] + 30, flowdraws.any_deed)
                steps = chance.choice((1, 4, 30, 100))
                start, before, second.tale = flowed(start, deeds, steps), runner, []
                told, runner = tale(runner, deeds, steps), led(runner, deeds, steps)
                self.assertEqual(shown(runner), start)
                self.assertEqual(runner, second.lead(deeds, steps).runner())
                self.assertEqual(told, tuple(second.tale))
                self.check_counts(before, runner, told)
                deed = flowdraws.any_deed(chance)
                start, runner = dealt(start, deed), deeded(runner, deed)
                second.deal(deed)
                self.assertEqual((shown(runner), runner), (start, second.runner()))
                if number % 6 == 0:
                    self.assertIs(is_runner(start, runner), True)
            counted = [one + two for one, two in zip(counted, tally(runner))]
        self.assertGreater(min(counted), 10)

    def check_counts(self, before, runner, told):
        """What TALLY and the tale tell of one another."""
        grown = [two - one for one, two in zip(tally(before), tally(runner))]
        self.assertEqual(grown[0] + grown[1], shown(runner)[5] - shown(before)[5])
        words = [event[0] for event in told]
        for k, word in ((0, "step"), (2, "made"), (3, "entered"), (5, "thrown"), (6, "crowded")):
            self.assertEqual(grown[k], words.count(word))
        self.assertEqual(grown[1], sum(event[3] for event in told if event[0] == "entered"))
        self.assertEqual(sum(counts[4] for counts in shown(runner)[4]), shown(runner)[5])
        self.assertNotIn("fault", [event[4] for event in told if event[0] == "entered"])

    def test_as_many_leaps_as_steps_at_most(self):
        chance = random.Random(59)
        for _ in range(20):
            runner = started(flow_of(flowdraws.chain(chance), drawn.tables(chance), flowdraws.arrivals(chance)), flowdraws.settings(chance))
            whole, left = led(runner, (), 40), 40
            while left > 0 and shown(runner)[2][0] == "run":
                behind = leap(runner, (), left)
                done = shown(behind)[5] - shown(runner)[5]
                self.assertTrue(1 <= done <= left)
                runner, left = behind, left - done
            self.assertEqual(runner, whole)

    def test_whatever_is_kept_by_whomever(self):
        """Runners with other forms, translations, links and counts, which are runners all the same."""
        chance, tried = random.Random(60), 0
        while tried < 30:
            start = flow_of(flowdraws.chain(chance), drawn.tables(chance), flowdraws.arrivals(chance))
            runner = led(started(start, flowdraws.settings(chance)), (), 30)
            flow_now = shown(runner)
            if not runner[2] or flow_now[2][0] == "still":
                continue
            tried += 1
            blocks, index = [], flow_now[2][1]
            for block in runner[2]:
                form = form_of(flow_now[0][block[1]][0], block[2], chance.randint(1, 12))
                other, steps = better(form, tuple(sorted(chance.sample(range(13), 5))), ())
                long = min(12, max(form[1], chance.randint(1, 12))) if form[4][0] != "on" else form[1]
                told = (block[0], block[1], block[2], long, steps, other, made(other, chance.randint(4, 12)),
                        chance.randint(0, tally(runner)[3]), ())
                blocks.append(told)
            there = {block[2]: block[0] for block in blocks if block[1] == index}
            blocks = [put(block, 8, tuple(list(there.items())[:4])) if block[1] == index else block for block in blocks]
            comes = tuple(((0, place), chance.randint(1, 9)) for place in (0, 1, 119))
            source = chance.choice([0] + list(there.values()))
            other = (flow_now, runner[1], tuple(blocks), comes, source, runner[5] + 3, runner[6])
            if is_runner(flow_now, other):
                self.assertEqual(shown(led(other, (), 200)), flowed(flow_now, (), 200))
            else:
                tried -= 1
