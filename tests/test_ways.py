"""Points 23 to 26: where rows lead from a known state, and what shows that they do not fault."""

import random
import unittest

from suresieves.known import are_so, is_known_state, tight
from suresieves.runs import fault_of, one_step
from suresieves.ways import open_kind, reckoned_known, related_known, ways_of
from tests import drawn
from tests.test_reckoned import known
from tests.test_steps import random_row
from tests.values import ANY, number, put

GRANT = (0, 64, 1, (("array", 1, 4), ("pairs", 1, 3), ("array", 0, 8), ("pairs", 0, 0)))
LOOSE = (5, 20, 0, 0, 3, 2, 1)
OPPOSITES = {"same": "other", "below": "from", "bit": "nobit", "other": "same", "from": "below", "nobit": "bit"}


def state_with(registers=(), slots=(), counters=(), length=(10, 64)):
    """A state of which the first registers, slots and counters are told."""
    return (
        tuple(registers) + (ANY,) * (8 - len(registers)), tuple(slots) + (ANY,) * (16 - len(slots)),
        tuple(counters) + ((0, 100),) * (4 - len(counters)), length,
    )


STATE = state_with((number(3), LOOSE, known(7, 9), ANY), (LOOSE, number(8)), ((1, 2), (3, 4)))


class TestRowsThatGoOn(unittest.TestCase):
    def check(self, row, state, place, told):
        with self.subTest(row=row):
            self.assertTrue(is_known_state(state))
            self.assertEqual(ways_of(row, place, state, GRANT), ((place + 1, told),))

    def check_word(self, row, told, state=STATE):
        """A row sets register 2 to what is told, made tight."""
        for place in (0, 7, 119):
            self.check(row, state, place, put(state, 0, put(state[0], 2, told)))

    def test_set_and_what_is_carried(self):
        self.check_word(("set", 2, 65535), number(65535))
        self.check_word(("move", 2, 1), LOOSE)
        self.check_word(("move", 2, 2), known(7, 9))
        self.check_word(("take", 2, 0), LOOSE)
        self.check_word(("take", 2, 1), number(8))
        self.check(("keep", 1, 5), STATE, 3, put(STATE, 1, put(STATE[1], 5, LOOSE)))
        self.check(("keep", 0, 0), STATE, 3, put(STATE, 1, put(STATE[1], 0, number(3))))
        self.assertNotEqual(tight(LOOSE), LOOSE)

    def test_length(self):
        self.check_word(("length", 2), tight(known(10, 64, 0, 0, 0)))
        self.check_word(("length", 2), (9, 9, 65535, 9, 0, None, None), put(STATE, 3, (9, 9)))
        self.check_word(("length", 2), (0, 256, 65024, 0, 0, None, None), put(STATE, 3, (0, 256)))

    def test_what_is_read(self):
        byte = (0, 255, 65280, 0, None, None, None)
        for row in (("byte", 2, 0, 1), ("byte", 2, 2, 255)):
            self.check_word(row, byte)
        for row in (("pair", 2, 0, 1), ("cell", 2, 0, 0), ("cell", 2, 5, 0), ("value", 2, 1, 0), ("value", 2, 0, 0)):
            self.check_word(row, ANY)
        self.check_word(("ask", 2, "clock", 0), ANY)

    def test_find(self):
        self.check_word(("find", 2, 1, 0), (0, 3, 65532, 0, None, None, 1))
        self.check_word(("find", 2, 3, 0), put(number(0), 6, 3))
        for t in (0, 2, 4, 5):
            self.check_word(("find", 2, t, 0), put(number(0), 6, t))

    def test_helpers(self):
        for value, most in (
            (number(0), 0), (number(1), 1), (known(3, 7), 3), (known(3, 8), 4), (ANY, 16), (known(0, 32768), 16),
            (number(6), 3),
        ):
            self.check_word(("ask", 2, "ones", 3), tight(known(0, most)), put(STATE, 0, put(STATE[0], 3, value)))
        self.check_word(("ask", 2, "mix", 0), number((3 * 40503 + 1) % 65536))
        self.check_word(("ask", 2, "mix", 2), ANY)
        self.check_word(("ask", 2, "mix", 3), ANY)
        self.check_word(("ask", 2, "mix", 1), number((9 * 40503 + 1) % 65536),
                        put(STATE, 0, put(STATE[0], 1, (9, 9, 0, 0, 3, 3, 3))))

    def test_reckoned(self):
        for op in drawn.OPS:
            for b, value in ((0, number(3)), (1, LOOSE), (2, known(7, 9)), (3, ANY)):
                self.check_word((op, 2, b), reckoned_known(op, known(7, 9), value, 10))
        for op in ("add", "and", "or", "xor", "left", "right"):
            for n in (0, 1, 15):
                self.check_word((op + "n", 2, n), reckoned_known(op, known(7, 9), number(n), 10))

    def test_the_length_that_is_known(self):
        held = put(STATE, 0, put(STATE[0], 2, known(0, 64, 0, 0, 0)))
        for length, minus in ((4, 4), (3, None)):
            told = ways_of(("addn", 2, 65532), 0, put(held, 3, (length, 64)), GRANT)[0][1][0][2]
            self.assertEqual(told[4], minus)
            state = put(put(held, 3, (length, 64)), 0, put(held[0], 2, known(0, 64, 0, 0, 0)))
            state = put(state, 0, put(state[0], 0, number(4)))
            self.assertEqual(ways_of(("sub", 2, 0), 0, state, GRANT)[0][1][0][2][4], minus)

    def test_what_changes_nothing_known(self):
        for row in (("write", 1, 2, 3), ("fill", 1, 0, 2), ("count", 0, 2), ("change", 1, 1, 2)):
            self.check(row, STATE, 5, STATE)

    def test_begin(self):
        for l in range(4):
            self.check(("begin", l), STATE, 5, put(STATE, 2, put(STATE[2], l, (0, 0))))

    def test_jump_and_answer(self):
        for place, d in ((0, 0), (5, 119), (119, 3)):
            self.assertEqual(ways_of(("jump", d), place, STATE, GRANT), ((d, STATE),))
            self.assertEqual(ways_of(("answer", 1), place, STATE, GRANT), ())


class TestAgain(unittest.TestCase):
    def test_stretches(self):
        for (low, high), n, behind, back in (
            ((0, 0), 1, None, (1, 1)), ((1, 1), 1, (1, 1), None), ((0, 1), 1, (1, 1), (1, 1)),
            ((0, 5), 6, None, (1, 6)), ((0, 6), 6, (6, 6), (1, 6)), ((0, 9), 6, (6, 9), (1, 6)),
            ((5, 9), 6, (6, 9), (6, 6)), ((6, 9), 6, (6, 9), None), ((7, 9), 6, (7, 9), None),
            ((2, 3), 100, None, (3, 4)), ((0, 100), 100, (100, 100), (1, 100)), ((100, 100), 100, (100, 100), None),
            ((99, 100), 100, (100, 100), (100, 100)),
        ):
            for l in range(4):
                state = put(STATE, 2, put(STATE[2], l, (low, high)))
                told = [(target, put(STATE, 2, put(STATE[2], l, stretch)))
                        for target, stretch in ((9, behind), (4, back)) if stretch is not None]
                self.assertEqual(ways_of(("again", l, n, 4), 8, state, GRANT), tuple(told))


class TestWhen(unittest.TestCase):
    def test_both_ways_in_order(self):
        one, two = known(5, 20), known(9, 30)
        for relation in OPPOSITES:
            for first, second in ((one, two), (two, one), (ANY, number(6)), (number(0), number(0)), (number(1), number(2))):
                state = state_with((ANY, first, second))
                told = []
                for target, name in ((8, OPPOSITES[relation]), (50, relation)):
                    pair = related_known(name, first, second)
                    if pair is not None:
                        told.append((target, state_with((ANY,) + pair)))
                self.assertEqual(ways_of(("when", relation, 1, 2, 50), 7, state, GRANT), tuple(told))

    def test_numbers(self):
        for relation in OPPOSITES:
            for first in (known(5, 20), number(6), number(0), ANY, known(0, 6, 0, 0, None, 9, 2)):
                for n in (0, 5, 6, 20, 65535):
                    state = state_with((ANY, first))
                    told = []
                    for target, name in ((8, OPPOSITES[relation]), (0, relation)):
                        pair = related_known(name, first, number(n))
                        if pair is not None:
                            told.append((target, state_with((ANY, pair[0]))))
                    self.assertEqual(ways_of(("whenn", relation, 1, n, 0), 7, state, GRANT), tuple(told))

    def test_length_by_minus(self):
        def lengths(row, registers, length=(0, 256)):
            ways = ways_of(row, 7, state_with(registers, (), (), length), GRANT)
            return [(target, state[3]) for target, state in ways]

        self.assertEqual(lengths(("whenn", "below", 0, 14, 50), (known(0, 64, 0, 0, 0),)), [(8, (14, 64)), (50, (0, 13))])
        self.assertEqual(lengths(("whenn", "below", 0, 14, 50), (known(0, 64, 0, 0, 4),)), [(8, (18, 68)), (50, (4, 17))])
        self.assertEqual(lengths(("whenn", "below", 0, 14, 50), (ANY,), (3, 9)), [(8, (3, 9)), (50, (3, 9))])
        self.assertEqual(lengths(("whenn", "below", 0, 14, 50), (known(0, 64, 0, 0, 0),), (3, 13)), [(50, (3, 13))])
        self.assertEqual(lengths(("whenn", "below", 0, 14, 50), (known(0, 64, 0, 0, 0),), (14, 20)), [(8, (14, 20))])
        self.assertEqual(lengths(("whenn", "same", 0, 14, 50), (known(0, 64, 0, 0, 2),), (3, 30)),
                         [(8, (3, 30)), (50, (16, 16))])
        # First for ONE, then for TWO.
        both = (known(0, 50, 0, 0, 1), known(0, 40, 0, 0, 5))
        self.assertEqual(lengths(("when", "from", 0, 1, 50), both), [(8, (6, 40)), (50, (5, 45))])
        self.assertEqual(lengths(("when", "below", 1, 0, 50), both), [(8, (5, 41)), (50, (5, 45))])
        far = (known(0, 10, 0, 0, 0), known(5, 40, 0, 0, 9))
        self.assertEqual(lengths(("when", "below", 0, 1, 50), far), [])
        self.assertEqual(lengths(("when", "below", 0, 1, 50), (far[0], ANY)), [(8, (0, 10)), (50, (0, 10))])
        self.assertEqual(lengths(("when", "below", 0, 1, 50), (ANY, far[1])), [(8, (14, 49)), (50, (14, 49))])

    def test_minus_of_both_behind_same(self):
        state = state_with((known(0, 50, 0, 0, 1), known(20, 90)), (), (), (0, 256))
        ways = ways_of(("when", "same", 0, 1, 50), 7, state, GRANT)
        self.assertEqual(ways[1][1][3], (21, 51))
        self.assertEqual(ways[1][1][0][1][4], 1)
        unlike = state_with((known(0, 50, 0, 0, 1), known(20, 90, 0, 0, 2)), (), (), (0, 256))
        self.assertEqual(ways_of(("when", "same", 0, 1, 50), 7, unlike, GRANT)[1][1][3], (22, 51))

    def test_one_register(self):
        held = known(0, 64, 0, 0, 2)
        state = state_with((ANY, held), (), (), (0, 256))
        more = state_with((ANY, tight(known(1, 64, 0, 0, 2))), (), (), (3, 66))
        nought = state_with((ANY, put(number(0), 4, 2)), (), (), (2, 2))
        self.assertEqual(ways_of(("when", "same", 1, 1, 50), 7, state, GRANT), ((50, state),))
        self.assertEqual(ways_of(("when", "from", 1, 1, 50), 7, state, GRANT), ((50, state),))
        self.assertEqual(ways_of(("when", "other", 1, 1, 50), 7, state, GRANT), ((8, state),))
        self.assertEqual(ways_of(("when", "below", 1, 1, 50), 7, state, GRANT), ((8, state),))
        self.assertEqual(ways_of(("when", "bit", 1, 1, 50), 7, state, GRANT), ((8, nought), (50, more)))
        self.assertEqual(ways_of(("when", "nobit", 1, 1, 50), 7, state, GRANT), ((8, more), (50, nought)))
        zero = state_with((number(0),))
        self.assertEqual(ways_of(("when", "bit", 0, 0, 50), 7, zero, GRANT), ((8, zero),))
        three = state_with((known(3, 9),))
        told = state_with((tight(known(3, 9)),))
        self.assertEqual(ways_of(("when", "nobit", 0, 0, 50), 7, three, GRANT), ((8, told),))
        self.assertEqual(ways_of(("when", "bit", 1, 1, 50), 7, put(state, 3, (0, 2)), GRANT), ((8, put(nought, 3, (2, 2))),))
        self.assertEqual(ways_of(("when", "nobit", 1, 1, 50), 7, put(state, 3, (3, 9)), GRANT), ((8, put(more, 3, (3, 9))),))


class TestBesideSteps(unittest.TestCase):
    def test_one_of_the_ways_leads_to_the_next_place(self):
        chance = random.Random(25)
        done = 0
        while done < 1200:
            row = random_row(chance)
            run = drawn.midway(chance, drawn.GRANT, 0)
            behind = one_step((row,), run)
            state = drawn.state_of_run(chance, run)
            self.assertTrue(are_so(state, run))
            ways = ways_of(row, 0, state, drawn.GRANT)
            if behind[8] is None:
                done += 1
                leading = [told for target, told in ways if target == behind[3] and are_so(told, behind)]
                self.assertTrue(leading, row)
            elif behind[8][0] == "answer":
                self.assertEqual(ways, ())
            for target, told in ways:
                self.assertTrue(is_known_state(told), row)

    def test_loops_of_when_with_far_lengths(self):
        chance = random.Random(26)
        for _ in range(600):
            run = drawn.midway(chance, (0, 256, 1, drawn.KINDS))
            size = len(run[4])
            near = tuple(chance.choice((size, max(0, size - 3), size // 2, 0)) for _ in range(8))
            run = (near,) + run[1:]
            row = chance.choice((
                ("when", chance.choice(drawn.RELATIONS), chance.randrange(8), chance.randrange(8), 9),
                ("whenn", chance.choice(drawn.RELATIONS), chance.randrange(8), chance.choice(near), 9),
            ))
            behind = one_step((row,), run)
            ways = ways_of(row, 0, drawn.state_of_run(chance, run), drawn.GRANT)
            self.assertTrue([told for target, told in ways if target == behind[3] and are_so(told, behind)], row)


class TestOpenKind(unittest.TestCase):
    def check(self, kind, row, state=STATE, grant=GRANT, place=0, many=120):
        with self.subTest(row=row, state=state[0][:2]):
            self.assertEqual(open_kind(row, place, state, grant, many), kind)

    def test_table(self):
        state = state_with((number(1), put(number(1), 6, 1)))
        for head in ("cell", "fill"):
            for t, told in ((0, None), (1, "table"), (2, None if head == "cell" else "table"), (3, "table"), (4, "table"), (5, "table")):
                self.check(told, (head, 2, t, 0), state)
        for t, told in ((0, None), (1, "table"), (2, "table"), (3, "table"), (4, "table")):
            self.check(told, ("count", t, 0), state)
        for t, told in ((0, "table"), (1, None), (2, "table"), (3, None), (4, "table")):
            self.check(told, ("find", 2, t, 0), state)
        for t, told in ((0, "table"), (1, None), (2, "table"), (4, "table")):
            self.check(told, ("value", 2, t, 1), state)
            self.check(told, ("change", 2, t, 1), state)
        third = state_with((number(1), put(number(1), 6, 3)))
        self.check(None, ("value", 2, 3, 1), third)
        self.check("table", ("change", 2, 3, 1), third)

    def test_index(self):
        for high, told in ((3, None), (4, "index"), (5, "index"), (65535, "index")):
            state = state_with((known(0, high),))
            for row in (("cell", 2, 0, 0), ("fill", 2, 0, 0), ("count", 0, 0)):
                self.check(told, row, state)
            self.check(None if high < 8 else "index", ("cell", 2, 2, 0), state)
        self.check("index", ("cell", 2, 2, 0), state_with((number(8),)))
        self.check(None, ("cell", 2, 2, 0), state_with((number(7),)))

    def test_handle(self):
        for value, told in (
            (known(1, 3, 0, 0, None, None, 1), None), (known(0, 3, 0, 0, None, None, 1), "handle"),
            (known(1, 3), "handle"), (known(1, 3, 0, 0, None, None, 3), "handle"), (known(1, 3, 0, 0, None, None, 0), "handle"),
            (known(9, 99, 0, 0, None, None, 1), None), (number(1), "handle"),
        ):
            for head in ("value", "change"):
                self.check(told, (head, 2, 1, 0), state_with((value,)))

    def test_packet(self):
        for value, s, length, byte, pair in (
            (number(0), 0, 0, False, False), (number(0), 0, 1, True, False), (number(0), 0, 2, True, True),
            (number(3), 4, 7, False, False), (number(3), 4, 8, True, False), (number(3), 4, 9, True, True),
            (known(0, 3), 0, 4, True, False), (known(0, 5), 0, 5, False, False), (known(0, 5), 0, 4, False, False),
            (ANY, 0, 256, False, False), (known(0, 999, 0, 0, 1), 0, 0, True, False), (known(0, 999, 0, 0, 5), 4, 0, True, False),
            (known(0, 999, 0, 0, 5), 5, 0, False, False), (known(0, 999, 0, 0, 6), 4, 0, True, True),
            (known(0, 999, 0, 0, None, 5), 4, 0, True, False), (known(0, 999, 0, 0, None, 6), 4, 0, True, True),
            (known(0, 999, 0, 0, 3, 5), 4, 0, True, False), (known(0, 999, 0, 0, 0, None), 0, 0, False, False),
            (number(0), 255, 256, True, False), (number(0), 254, 256, True, True), (number(1), 255, 256, False, False),
        ):
            state = state_with((ANY, value), (), (), (length, 256))
            self.check(None if byte else "packet", ("byte", 2, 1, s), state)
            self.check(None if byte else "packet", ("write", 2, 1, s), state)
            self.check(None if pair else "packet", ("pair", 2, 1, s), state)

    def test_grant(self):
        still = put(GRANT, 2, 0)
        state = state_with((ANY, number(0)))
        self.check("grant", ("write", 2, 1, 0), state, still)
        self.check(None, ("byte", 2, 1, 0), state, still)
        self.check(None, ("write", 2, 1, 0), state)

    def test_place(self):
        for row in (("set", 2, 1), ("move", 2, 1), ("begin", 2), ("keep", 1, 1), ("find", 2, 1, 3)):
            self.check(None, row, place=4, many=6)
            self.check("place", row, place=5, many=6)
            self.check("place", row, place=119, many=120)
            self.check(None, row, place=118, many=120)
        self.check("place", ("jump", 6), place=0, many=6)
        self.check(None, ("jump", 5), place=5, many=6)
        self.check("place", ("whenn", "same", 0, 3, 6), place=0, many=6)
        self.check(None, ("whenn", "same", 0, 4, 6), place=0, many=6)
        self.check("place", ("whenn", "same", 0, 4, 0), place=5, many=6)
        self.check(None, ("whenn", "same", 0, 3, 0), place=5, many=6)
        self.check("place", ("whenn", "same", 3, 4, 6), place=0, many=6)
        self.check("place", ("whenn", "same", 3, 4, 0), place=5, many=6)
        self.check(None, ("answer", 0), place=5, many=6)
        self.check("place", ("again", 0, 2, 0), place=5, many=6)
        self.check(None, ("again", 0, 3, 0), place=5, many=6)
        self.check("place", ("again", 0, 3, 6), place=4, many=6)

    def test_several_at_once(self):
        still = (0, 64, 0, (("array", 0, 4), ("pairs", 0, 3)))
        self.check("table", ("fill", 2, 0, 3), grant=still, place=5, many=6)
        self.check("table", ("change", 2, 1, 3), grant=still, place=5, many=6)
        self.check("index", ("cell", 2, 0, 3), grant=still, place=5, many=6)
        self.check("handle", ("value", 2, 1, 3), grant=still, place=5, many=6)
        self.check("packet", ("write", 2, 3, 0), grant=still, place=5, many=6)
        self.check("grant", ("write", 2, 0, 0), grant=still, place=5, many=6)
        self.check("place", ("write", 2, 0, 0), place=5, many=6)

    def test_what_is_shown_does_not_fault(self):
        chance = random.Random(27)
        shown = 0
        for _ in range(2500):
            row = random_row(chance)
            run = drawn.midway(chance)
            state = drawn.state_of_run(chance, run)
            # One row alone: where it leads is no place, so its kinds are asked for in a longer sieve.
            if open_kind(row, 0, state, drawn.GRANT, 120) is None:
                shown += row[0] in ("byte", "pair", "write", "cell", "fill", "count", "value", "change", "find")
                self.assertIsNone(fault_of((row,), run), row)
        self.assertGreater(shown, 80)
