"""Point 54: what is a runner of a flow."""

import random
import unittest

from suresieves.flows import dealt, fed, flow_of, flowed
from suresieves.forms import form_of
from suresieves.making import made
from suresieves.runners import deeded, is_runner, led, shown, started
from tests import drawn, flowdraws
from tests.flowvalues import PASSING, flow
from tests.test_runners import CLIMBING, LOOPING, settings
from tests.values import STRANGE, put

NO_PART = ("?", [], object(), -1, True, b"", 1j)


def paths_in(value, room=9):
    """All ways to a part of a value."""
    yield ()
    if isinstance(value, tuple) and room:
        for index, part in enumerate(value):
            for path in paths_in(part, room - 1):
                yield (index,) + path


def at_path(value, path, part):
    """A value with another part."""
    if not path:
        return part
    return put(value, path[0], at_path(value[path[0]], path[1:], part))


def part_at(value, path):
    for index in path:
        value = value[index]
    return value


# A packet midway, three links between blocks, one block of a second link, and a place come to.
RUNNER = deeded(led(started(flow((LOOPING, CLIMBING), ((), (), ())), settings()), (), 12), ("make", 1, 4))
RUNNER = put(deeded(RUNNER, ("make", 1, 0)), 3, (((0, 1), 2), ((0, 119), 9), ((1, 0), 1)))
FLOW = shown(RUNNER)
FIRST, SECOND = RUNNER[2][:2]


class RunnerCase(unittest.TestCase):
    def no_runner(self, value, flow_told=FLOW):
        self.assertIs(is_runner(flow_told, value), False, value)

    def with_block(self, k, part, value):
        return put(RUNNER, 2, put(RUNNER[2], k, put(RUNNER[2][k], part, value)))


class TestRight(RunnerCase):
    def test_the_one_that_is_bent_below(self):
        self.assertIs(is_runner(FLOW, RUNNER), True)
        self.assertEqual((RUNNER[4], [block[8] for block in RUNNER[2]]), (2, [((2, 2),), ((2, 2),), (), ()]))
        self.assertIs(is_runner(flow=FLOW, value=RUNNER), True)

    def test_leaps_deeds_and_feeding(self):
        chance, blocks = random.Random(61), 0
        for _ in range(25):
            start = flow_of(flowdraws.chain(chance), drawn.tables(chance), flowdraws.arrivals(chance))
            runner = started(start, flowdraws.settings(chance))
            for _ in range(3):
                self.assertIs(is_runner(start, runner), True)
                steps, deed = chance.randint(0, 40), flowdraws.any_deed(chance)
                start = dealt(flowed(start, (), steps), deed)
                runner = deeded(led(runner, (), steps), deed)
                blocks += len(runner[2])
                self.assertIs(is_runner(start, runner), True)
                self.no_runner(runner, fed(start, ((0, ()),)))
        self.assertGreater(blocks, 60)

    def test_other_parts_that_are_right(self):
        last = form_of(LOOPING[0], 0, 3)
        for value in (
            put(RUNNER, 1, settings(room=4)), put(RUNNER, 3, ()), put(RUNNER, 4, 0), put(RUNNER, 4, 1), put(RUNNER, 5, 5),
            put(RUNNER, 5, 10 ** 50), put(RUNNER, 6, (9, 0, 0, 6, 0, 10 ** 50, 0)), self.with_block(0, 7, 0),
            self.with_block(0, 7, RUNNER[6][3]), self.with_block(0, 8, ()), self.with_block(1, 8, ((0, 1), (2, 2))),
            self.with_block(0, 3, 4), put(RUNNER, 2, RUNNER[2][:2] + RUNNER[2][3:]),
            put(put(RUNNER, 4, 1), 2, (put(FIRST, 8, ()),)),
            self.with_block(0, 6, made(FIRST[5], 4)),
            put(RUNNER, 2, (FIRST[:3] + (3, (), last, made(last, 5)) + FIRST[7:],) + RUNNER[2][1:]),
        ):
            self.assertIs(is_runner(FLOW, value), True, value)


class TestWrong(RunnerCase):
    def test_things_of_any_other_kind(self):
        for value in STRANGE + ((), 0, RUNNER[:6], RUNNER + (0,), list(RUNNER), FLOW):
            self.no_runner(value)

    def test_another_thing_at_each_place_within(self):
        """Anything of another kind anywhere, but for numbers that are not bound to be others."""
        for path in paths_in(RUNNER):
            if path[:2] != (0, 0):
                for part in NO_PART:
                    self.no_runner(at_path(RUNNER, path, part))

    def test_true_for_one(self):
        for path in paths_in(RUNNER):
            if part_at(RUNNER, path) in (0, 1) and path[:2] != (0, 0):
                self.no_runner(at_path(RUNNER, path, bool(part_at(RUNNER, path))))

    def test_one_element_more_or_less(self):
        may_be_fewer = [(2,), (3,), (2, 0, 8), (2, 1, 8)]
        for path in paths_in(RUNNER):
            part = part_at(RUNNER, path)
            if isinstance(part, tuple) and path[:2] != (0, 0):
                self.no_runner(at_path(RUNNER, path, part + (0,)))
                self.no_runner(at_path(RUNNER, path, list(part)))
                if part and path not in may_be_fewer:
                    self.no_runner(at_path(RUNNER, path, part[:-1]))

    def test_another_flow(self):
        still = started(flow((PASSING,), ()), settings())
        for flow_told in (flowed(FLOW, (), 1), dealt(FLOW, ("cell", 0, 0, 99)), dealt(FLOW, ("exchange", 1, PASSING)), shown(still)):
            self.no_runner(RUNNER, flow_told)
            self.assertIs(is_runner(flow_told, put(RUNNER, 0, FLOW)), False)
        self.assertIs(is_runner(shown(still), still), True)

    def test_blocks(self):
        for told in (
            self.with_block(0, 0, 2), self.with_block(0, 0, 0), self.with_block(1, 0, 5), self.with_block(3, 0, 5),
            self.with_block(0, 1, 1), self.with_block(2, 1, 0), self.with_block(0, 1, 2), self.with_block(0, 2, 1),
            self.with_block(0, 2, 119), self.with_block(0, 3, 3), self.with_block(0, 3, 13), self.with_block(0, 3, 0),
            self.with_block(0, 4, ()), self.with_block(0, 4, FIRST[4] * 2), self.with_block(0, 4, (("sure", 0),)),
            self.with_block(0, 5, form_of(LOOPING[0], 0, 12)), self.with_block(0, 5, SECOND[5]),
            self.with_block(0, 6, SECOND[6]), self.with_block(0, 6, made(form_of(LOOPING[0], 0, 12), 4)),
            self.with_block(0, 7, RUNNER[6][3] + 1),
            put(RUNNER, 2, (SECOND, FIRST) + RUNNER[2][2:]), put(RUNNER, 2, RUNNER[2][:1] + RUNNER[2]),
            put(put(RUNNER, 5, 6), 2, RUNNER[2] + (put(put(FIRST, 0, 5), 3, 4),)),
            put(RUNNER, 2, RUNNER[2] + (put(FIRST, 0, 5),)), put(put(RUNNER, 5, 6), 2, RUNNER[2] + (put(FIRST, 0, 5),)),
        ):
            self.no_runner(told)

    def test_links(self):
        for told in (((2, 1),), ((1, 2),), ((2, 2), (2, 2)), ((2, 5),), ((2, 0),), ((4, 3),), ((0, 4),), ((120, 2),), ((-1, 2),),
                     ((0, 1), (2, 2), (0, 1)), ((2, 2),) * 5, ((2,),), (2, 2), ((2, 2, 2),)):
            self.no_runner(self.with_block(0, 8, told))
        self.assertIs(is_runner(FLOW, self.with_block(1, 8, ((0, 1),))), True)
        self.no_runner(self.with_block(1, 8, ((0, True),)))
        self.no_runner(self.with_block(1, 8, ((False, 1),)))

    def test_how_many(self):
        self.no_runner(put(RUNNER, 1, settings(room=3)))
        five = put(FIRST, 8, ((0, 1), (1, 5), (2, 2), (3, 6), (4, 7)))
        runner = RUNNER
        for place in (1, 3, 4):
            runner = deeded(runner, ("make", 0, place))
        self.assertEqual(len(runner[2]), 7)
        self.assertIs(is_runner(FLOW, put(runner, 2, (put(five, 8, five[8][:4]),) + runner[2][1:])), True)
        self.no_runner(put(runner, 2, (five,) + runner[2][1:]))

    def test_comes(self):
        for comes in ((((0, 1), 0),), (((0, 1), 10),), (((2, 1), 1),), (((0, 120), 1),), (((-1, 0), 1),), (((0, 1), 1), ((0, 1), 2)),
                      (((0, 2), 1), ((0, 1), 1)), (((1, 0), 1), ((0, 5), 1)), (((0, 1, 1), 1),), (((0, 1), 1, 1),), ((0, 1),), ((), 1)):
            self.no_runner(put(RUNNER, 3, comes))

    def test_from_next_and_tally(self):
        for source in (3, 4, 5, 9, -1):
            self.no_runner(put(RUNNER, 4, source))
        empty = put(put(RUNNER, 2, ()), 4, 0)
        self.assertIs(is_runner(FLOW, put(empty, 5, 1)), True)
        for number in (0, 1, 4, -5):
            self.no_runner(put(RUNNER, 5, number))
            self.no_runner(put(empty, 5, min(number, 0)))
        for k in range(7):
            self.no_runner(put(RUNNER, 6, put(RUNNER[6], k, -1)))
        self.no_runner(put(RUNNER, 6, put(RUNNER[6], 3, 4)))

    def test_no_from_in_a_still_flow(self):
        still = led(RUNNER, (), 999)
        self.assertEqual(shown(still)[2][0], "still")
        self.assertIs(is_runner(shown(still), still), True)
        self.no_runner(put(still, 4, 1), shown(still))
