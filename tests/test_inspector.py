"""Points 27 to 30: flaws, bounds, told tables, what the judge of tables takes, the verdict."""

import random
import unittest

from suresieves.compiling import compiled
from suresieves.errors import NotTaken, TooMany
from suresieves.inspector import flaws, steps_bound, sure_places, takes_table, told_table, verdict
from suresieves.known import are_so, entry, is_known_state, is_within, join, tight
from suresieves.runs import fits, one_step, run_on
from suresieves.sources import meant
from suresieves.ways import open_kind, ways_of
from tests import drawn, randoms
from tests.values import ANY, put

WIDE = (0, 64, 0, ())
EIGHT = ("byte", "pair", "write", "cell", "fill", "count", "value", "change", "find")


def slow_flaws(sieve):
    """The flaws, by sets of rows."""
    loops = {place: set(range(row[3], place + 1)) for place, row in enumerate(sieve) if row[0] == "again"}
    found = []
    for place, row in enumerate(sieve):
        reasons = []
        if row[0] in ("jump", "when", "whenn") and (row[-1] <= place or row[-1] >= len(sieve)):
            reasons.append("far")
        if row[0] == "again":
            mine = loops[place]
            if row[3] > place:
                reasons.append("back")
            if any(sieve[k] == ("begin", row[1]) for k in mine):
                reasons.append("begin")
            for other, theirs in loops.items():
                if other == place or not mine & theirs:
                    continue
                if (theirs - mine and not theirs >= mine) or sieve[other][1] == row[1]:
                    reasons.append("crossed")
        found.extend((place, reason) for reason in reasons[:1])
    return tuple(found)


def slow_bound(sieve):
    """The bound, row by row."""
    whole = 0
    for place in range(len(sieve)):
        times = 1
        for last, row in enumerate(sieve):
            if row[0] == "again" and place in range(row[3], last + 1):
                times *= row[2] + 1
        whole += times
    return whole


def slow_wide(stood, joined, grant):
    def value(one, two):
        low, high, mask, bits, minus, left, handle = two
        if low < one[0]:
            low = 0
        if high > one[1]:
            high = 65535
        if left != one[5]:
            left = None
        return tight((low, high, mask, bits, minus, left, handle))

    counters = tuple(two if one == two else (0, 100) for one, two in zip(stood[2], joined[2]))
    return (
        tuple(map(value, stood[0], joined[0])), tuple(map(value, stood[1], joined[1])), counters,
        joined[3] if joined[3] == stood[3] else (grant[0], grant[1]),
    )


def slow_told(sieve, grant, rounds=None):
    """The told table, and how many rounds it took."""
    table = {0: entry(grant)}
    number = 0
    while True:
        number += 1
        before = dict(table)
        for place in range(len(sieve)):
            if place not in table:
                continue
            for target, state in ways_of(sieve[place], place, table[place], grant):
                if target >= len(sieve):
                    continue
                if target not in table:
                    table[target] = state
                    continue
                stood, joined = table[target], join(table[target], state)
                if joined != stood:
                    if number >= 5 and target <= place:
                        joined = slow_wide(stood, joined, grant)
                    table[target] = joined
        if table == before or number == rounds:
            return tuple(table.get(place) for place in range(len(sieve))), number


def slow_takes(sieve, grant, table):
    if slow_flaws(sieve) or table[0] is None or not is_within(entry(grant), table[0]):
        return False
    for place, state in enumerate(table):
        if state is None:
            continue
        if open_kind(sieve[place], place, state, grant, len(sieve)) is not None:
            return False
        for target, told in ways_of(sieve[place], place, state, grant):
            if table[target] is None or not is_within(told, table[target]):
                return False
    return True


class TestFlaws(unittest.TestCase):
    def check(self, sieve, told):
        with self.subTest(sieve=sieve):
            self.assertEqual(flaws(sieve), told)
            self.assertEqual(slow_flaws(sieve), told)
            if told:
                self.assertIsNone(steps_bound(sieve))
                self.assertIsNone(told_table(sieve, WIDE))
                self.assertEqual(verdict(sieve, WIDE), ("flaw",) + told[0])
                self.assertIs(takes_table(sieve, WIDE, (entry(WIDE),) + (None,) * (len(sieve) - 1)), False)
            else:
                self.assertEqual(steps_bound(sieve), slow_bound(sieve))

    def test_far(self):
        end = ("answer", 0)
        for row in (("jump",), ("when", "same", 0, 0), ("whenn", "same", 0, 0)):
            self.check((row + (1,), end), ())
            self.check((row + (0,), end), ((0, "far"),))
            self.check((row + (2,), end), ((0, "far"),))
            self.check((row + (119,), end), ((0, "far"),))
            self.check((end, end, row + (1,), row + (2,), row + (5,), end), ((2, "far"), (3, "far")))
            self.check((end,) * 118 + (row + (119,), row + (119,)), ((119, "far"),))

    def test_back(self):
        end = ("answer", 0)
        self.check((("again", 0, 5, 0), end), ())
        self.check((("again", 0, 5, 1), end), ((0, "back"),))
        self.check((("again", 0, 5, 119), end), ((0, "back"),))
        self.check((end, end, ("again", 0, 5, 2), ("again", 0, 5, 3)), ())
        # A loop that leads ahead has no rows: it shares none.
        self.check((("again", 0, 5, 2), end, ("again", 0, 5, 1), end), ((0, "back"),))
        self.check((("again", 0, 5, 2), ("begin", 0), end), ((0, "back"),))

    def test_begin(self):
        end = ("answer", 0)
        self.check((("begin", 0), ("again", 0, 5, 0), end), ((1, "begin"),))
        self.check((("begin", 0), ("again", 0, 5, 1), end), ())
        self.check((("begin", 1), ("again", 0, 5, 0), end), ())
        self.check((("again", 0, 5, 0), ("begin", 0), end), ())
        self.check((end, ("begin", 3), end, ("again", 3, 5, 1), end), ((3, "begin"),))
        # The begin of an inner loop's counter is in the outer loop.
        self.check((("begin", 1), ("again", 1, 5, 1), ("again", 0, 5, 0), end), ())

    def test_crossed(self):
        end = ("answer", 0)
        self.check((end, ("again", 0, 2, 0), ("again", 1, 2, 1), end), ((1, "crossed"), (2, "crossed")))
        self.check((end, ("again", 0, 2, 0), ("again", 1, 2, 0), end), ())
        self.check((end, ("again", 0, 2, 1), ("again", 1, 2, 0), end), ())
        self.check((end, ("again", 0, 2, 1), ("again", 0, 2, 0), end), ((1, "crossed"), (2, "crossed")))
        self.check((end, ("again", 0, 2, 0), ("again", 0, 2, 2), end), ())
        self.check((end, ("again", 0, 2, 0), end, ("again", 0, 2, 2), end), ())
        self.check((end, end, ("again", 0, 2, 0), end, ("again", 1, 2, 2), end, ("again", 0, 3, 5)),
                   ((2, "crossed"), (4, "crossed")))
        self.check((end, ("again", 0, 2, 1), ("again", 1, 2, 0), ("again", 2, 9, 0), ("again", 0, 2, 4)), ())
        self.check((end, ("again", 0, 2, 1), ("again", 1, 2, 0), ("again", 0, 9, 0)), ((1, "crossed"), (3, "crossed")))

    def test_the_first_of_two(self):
        end = ("answer", 0)
        self.check((("begin", 0), ("again", 1, 2, 0), ("again", 0, 2, 0), ("begin", 1), end), ((2, "begin"),))
        self.check((end, ("again", 1, 2, 0), ("begin", 0), ("again", 0, 2, 1), end), ((1, "crossed"), (3, "begin")))
        self.check((("jump", 0), ("again", 0, 1, 2), ("begin", 1), ("again", 1, 1, 2), ("when", "bit", 0, 1, 9)),
                   ((0, "far"), (1, "back"), (3, "begin"), (4, "far")))

    def test_drawn(self):
        chance = random.Random(27)
        kinds = {}
        for _ in range(3000):
            many = chance.randint(1, 9)
            sieve = tuple(chance.choice((
                ("again", chance.randrange(2), chance.randint(1, 5), chance.randrange(many + 1)),
                ("again", chance.randrange(4), chance.randint(1, 5), chance.randrange(many)),
                ("begin", chance.randrange(4)), ("jump", chance.randrange(many + 1)), ("answer", 0),
            )) for _ in range(many))
            self.check(sieve, slow_flaws(sieve))
            for _, reason in flaws(sieve) or ((0, None),):
                kinds[reason] = kinds.get(reason, 0) + 1
        self.assertGreater(min(kinds.values()), 100)
        self.assertEqual(len(kinds), 5)


class TestBound(unittest.TestCase):
    def test_told(self):
        end = ("answer", 0)
        for sieve, told in (
            ((end,), 1), ((end,) * 120, 120), ((end, ("again", 0, 4, 0), end), 11), ((("again", 0, 100, 0), end), 102),
            ((end, ("again", 0, 1, 1), ("again", 1, 2, 0), ("again", 2, 3, 0), end), 3 * 4 + 2 * 3 * 4 + 3 * 4 + 4 + 1),
            ((end, ("again", 0, 2, 0), ("again", 0, 3, 2)), 3 + 3 + 4),
        ):
            self.assertEqual(steps_bound(sieve), told)

    def test_it_can_be_come_to(self):
        loop = (("again", 0, 1, 0), ("again", 1, 2, 0), ("set", 0, 1), ("again", 2, 4, 2), ("answer", 0))
        self.assertEqual(flaws(loop), ())
        chance = random.Random(3)
        run = drawn.beginning(chance)
        behind = run_on(loop, run, 100)
        self.assertEqual(behind[8], ("answer", 1))
        self.assertLessEqual(behind[7], steps_bound(loop))
        once = (("set", 0, 1), ("again", 2, 4, 0), ("answer", 0))
        self.assertEqual(run_on(once, run, 100)[7], steps_bound(once))


class TestToldTable(unittest.TestCase):
    def test_by_hand(self):
        sieve = (("length", 0), ("whenn", "below", 0, 3, 4), ("set", 1, 5), ("jump", 5), ("set", 1, 9), ("answer", 1))
        table = told_table(sieve, (2, 4, 0, ()))
        self.assertEqual(table[0], entry((2, 4, 0, ())))
        # Rows are come to again in the second round: what is joined with its like has its room for LEFT.
        nought, length = (0, 0, 65535, 0, None, 2, None), (2, 4, 65528, 0, 0, 0, None)
        self.assertEqual(table[1], ((length,) + (nought,) * 7, (nought,) * 16, ((0, 0),) * 4, (2, 4)))
        self.assertEqual((table[2][3], table[4][3]), ((3, 4), (2, 2)))
        self.assertEqual(table[5][0][1][:2], (5, 9))
        self.assertEqual(table[5][3], (2, 4))
        start = entry(WIDE)
        self.assertEqual(told_table((("jump", 2), ("answer", 0), ("answer", 1)), WIDE), (start, None, join(start, start)))
        self.assertEqual(told_table((("set", 0, 0),), WIDE), (entry(WIDE),))

    def test_wide_from_the_fifth_round_on(self):
        # The counter grows by one in each round: up to 4 ahead of the fifth one.
        for n, within, behind in ((3, (0, 3), (3, 3)), (4, (0, 4), (4, 4)), (5, (0, 100), (5, 100)), (50, (0, 100), (50, 100))):
            table = told_table((("begin", 0), ("addn", 1, 1), ("again", 0, n, 1), ("answer", 1)), WIDE)
            self.assertEqual((table[1][2][0], table[3][2][0]), (within, behind))
            self.assertEqual(table[1][0][1][:2], (0, 65535))
        # What stays small is not made wide, nor is what is joined on a way ahead.
        table = told_table((("begin", 0), ("addn", 1, 1), ("andn", 1, 3), ("again", 0, 50, 1), ("answer", 1)), WIDE)
        self.assertEqual(table[1][0][1][:2], (0, 3))
        rows = (("length", 0),) + tuple(("whenn", "same", 0, n, 7) for n in range(6)) + (("answer", 0),)
        self.assertEqual(told_table(rows, WIDE)[7][0][0][:2], (0, 64))

    def test_what_falls_and_what_length_is_made_wide(self):
        # Three less in each round, down to 7: from 19 in the fourth one, from 20 in the fifth one.
        for start, low in ((19, 7), (20, 0), (50, 0)):
            sieve = (("set", 1, start), ("whenn", "below", 1, 10, 4), ("addn", 1, 65533), ("again", 0, 100, 1), ("answer", 1))
            table = told_table(sieve, WIDE)
            self.assertEqual(table, slow_told(sieve, WIDE)[0])
            self.assertEqual(table[1][0][1][:2], (low, start))
        # Behind place 7 the loop is entered in its midst, in the fifth round alone, by longer packets.
        sieve = (
            ("length", 0), ("whenn", "from", 0, 60, 13), ("begin", 0), ("addn", 1, 1), ("again", 0, 50, 3),
            ("whenn", "below", 0, 4, 9), ("whenn", "below", 1, 9, 13), ("jump", 10), ("answer", 0), ("set", 3, 0), ("set", 4, 0),
            ("again", 1, 2, 9), ("answer", 1), ("answer", 0),
        )
        table = told_table(sieve, WIDE)
        self.assertEqual(table, slow_told(sieve, WIDE)[0])
        self.assertEqual((table[5][3], table[7][3], table[9][3]), ((0, 59), (4, 59), (0, 64)))
        self.assertEqual((told_table(sieve, (2, 64, 0, ()))[9][3], told_table(sieve, (0, 61, 0, ()))[9][3]), ((2, 64), (0, 61)))

    def test_by_the_second_way(self):
        chance = random.Random(29)
        longest, wide = 0, 0
        for _ in range(120):
            sieve = drawn.sieve(chance, chance.choice((2, 3, 4, 6)))
            grant = chance.choice((drawn.GRANT, (0, 256, 1, drawn.KINDS), (8, 20, 0, drawn.KINDS)))
            told, rounds = slow_told(sieve, grant)
            longest, wide = max(longest, rounds), wide + (rounds > 5)
            self.assertEqual(told_table(sieve, grant), told, sieve)
        self.assertGreater(longest, 6)
        self.assertGreater(wide, 10)

    def test_it_is_so_at_each_place_that_is_come_to(self):
        chance = random.Random(30)
        for _ in range(120):
            sieve = drawn.sieve(chance, chance.choice((2, 3, 4, 6)))
            table = told_table(sieve, drawn.GRANT)
            for state in table:
                self.assertTrue(state is None or is_known_state(state))
            for _ in range(3):
                run, left = drawn.beginning(chance), 120
                while run[8] is None and left > 0:
                    self.assertTrue(are_so(table[run[3]], run), sieve)
                    run, left = one_step(sieve, run), left - 1


class TestTakes(unittest.TestCase):
    def both_ways(self, sieve, grant, table):
        told = takes_table(sieve, grant, table)
        self.assertIs(told, slow_takes(sieve, grant, table), sieve)
        return told

    def test_told_tables_and_bent_ones(self):
        chance = random.Random(28)
        taken = {True: 0, False: 0}
        for _ in range(40):
            sieve = drawn.sieve(chance, chance.choice((1, 2, 3)))
            table = told_table(sieve, drawn.GRANT)
            shows = verdict(sieve, drawn.GRANT)[0] == "let by"
            self.assertIs(self.both_ways(sieve, drawn.GRANT, table), shows)
            for _ in range(12):
                bent = self.bent(chance, table)
                told = self.both_ways(sieve, drawn.GRANT, bent)
                taken[told] += bent != table
                if told:
                    self.runs_as_told(chance, sieve, bent)
        self.assertGreater(min(taken.values()), 20)

    def bent(self, chance, table):
        """A table with one thing changed."""
        at = chance.randrange(len(table))
        state, pick = table[at], chance.randrange(6)
        if state is None or pick == 0:
            return put(table, at, None if state is not None else table[0])
        if pick == 1:
            return put(table, at, chance.choice(table))
        if pick == 2:
            return put(table, at, put(state, 3, (max(0, state[3][0] - 1), min(256, state[3][1] + chance.randint(0, 2)))))
        if pick == 3:
            return put(table, at, put(state, 2, put(state[2], chance.randrange(4), (0, chance.randint(0, 100)))))
        part, k = chance.choice((0, 0, 0, 1)), chance.randrange(8)
        value = state[part][k]
        if pick == 4:
            other = chance.choice((ANY, put(value, 5, None), put(value, 4, None), put(value, 6, None), value[:2] + ANY[2:]))
        else:
            low = chance.randint(value[0], value[1])
            other = tight((low, value[1], 0, 0) + value[4:]) or value
        return put(table, at, put(state, part, put(state[part], k, other)))

    def runs_as_told(self, chance, sieve, table):
        for _ in range(3):
            run = drawn.beginning(chance)
            while run[8] is None:
                self.assertTrue(are_so(table[run[3]], run), sieve)
                run = one_step(sieve, run)
            self.assertEqual(run[8][0], "answer")
            self.assertLessEqual(run[7], steps_bound(sieve))

    def test_by_hand(self):
        sieve = (("length", 0), ("whenn", "below", 0, 4, 3), ("byte", 1, 2, 3), ("answer", 1))
        table = told_table(sieve, WIDE)
        self.assertIs(self.both_ways(sieve, WIDE, table), True)
        self.assertIs(self.both_ways(sieve, WIDE, (None,) * 4), False)
        for at in range(4):
            self.assertIs(self.both_ways(sieve, WIDE, put(table, at, None)), False)
        self.assertIs(self.both_ways(sieve, WIDE, put(table, 3, put(table[3], 3, (0, 256)))), True)
        self.assertIs(self.both_ways(sieve, WIDE, put(table, 3, put(table[3], 3, (0, 63)))), False)
        # Where three bytes are known alone, LEFT of register 2 still tells that there are four.
        fewer = put(table[2], 3, (3, 64))
        self.assertIs(self.both_ways(sieve, WIDE, put(table, 2, fewer)), True)
        nought = put(table[2][0][2], 5, None)
        self.assertIs(self.both_ways(sieve, WIDE, put(table, 2, put(table[2], 0, put(table[2][0], 2, nought)))), True)
        fewer = put(fewer, 0, put(fewer[0], 2, nought))
        self.assertIs(self.both_ways(sieve, WIDE, put(table, 2, fewer)), False)
        self.assertIs(self.both_ways(sieve, WIDE, put(table, 2, put(table[2], 3, (4, 65)))), False)
        for part, many in ((0, 8), (1, 16)):
            for k in range(many):
                wider = put(table[3], part, put(table[3][part], k, ANY))
                self.assertIs(self.both_ways(sieve, WIDE, put(table, 3, wider)), True)
                narrow = put(table[3], part, put(table[3][part], k, (9, 9, 65535, 9, None, None, None)))
                self.assertIs(self.both_ways(sieve, WIDE, put(table, 3, narrow)), False)
        self.assertIs(self.both_ways(sieve, (0, 65, 0, ()), table), False)
        self.assertIs(self.both_ways(sieve, (1, 63, 0, ()), table), True)
        self.assertIs(self.both_ways(sieve, (0, 64, 1, (("array", 0, 3),)), table), True)
        unreached = (("answer", 0), ("byte", 0, 0, 0))
        self.assertIs(self.both_ways(unreached, WIDE, (entry(WIDE), None)), True)
        self.assertIs(self.both_ways(unreached, WIDE, (entry(WIDE), entry(WIDE))), False)


class TestVerdict(unittest.TestCase):
    def test_the_first_open_place(self):
        sieve = (("set", 1, 9), ("whenn", "below", 1, 3, 3), ("jump", 4), ("byte", 0, 0, 0), ("cell", 0, 0, 0),
                 ("byte", 0, 0, 0), ("answer", 0))
        table = told_table(sieve, WIDE)
        self.assertIsNone(table[3])
        self.assertEqual(verdict(sieve, WIDE), ("open", 4, "table", table[4]))
        arrays = (0, 64, 0, (("array", 0, 1),))
        self.assertEqual(verdict(sieve, arrays)[:3], ("open", 5, "packet"))
        self.assertEqual(verdict(sieve, (1, 64, 0, arrays[3]))[:2], ("open", 5))
        self.assertEqual(verdict(sieve[:5] + (("set", 0, 0), ("answer", 0)), arrays)[0], "let by")

    def test_parts(self):
        chance = random.Random(31)
        kinds = {}
        for _ in range(120):
            sieve = drawn.sieve(chance, chance.choice((1, 2, 3, 4)))
            told, table = verdict(sieve, drawn.GRANT), told_table(sieve, drawn.GRANT)
            opened = [(place, open_kind(sieve[place], place, state, drawn.GRANT, len(sieve)), state)
                      for place, state in enumerate(table) if state is not None]
            opened = [triple for triple in opened if triple[1] is not None]
            if opened:
                self.assertEqual(told, ("open",) + opened[0])
            else:
                self.assertEqual(told, ("let by", table, steps_bound(sieve)))
                self.assertIs(takes_table(sieve, drawn.GRANT, table), True)
            kinds[told[0]] = kinds.get(told[0], 0) + 1
        self.assertGreater(min(kinds["open"], kinds["let by"]), 15)

    def test_what_is_let_by_ends_with_an_answer(self):
        chance = random.Random(32)
        done = 0
        while done < 60:
            sieve = drawn.sieve(chance, chance.choice((1, 2, 3, 4)))
            grant = chance.choice((drawn.GRANT, (0, 9, 1, drawn.KINDS), (8, 20, 1, drawn.KINDS)))
            told = verdict(sieve, grant)
            if told[0] != "let by" or told[2] > 3000:
                continue
            done += 1
            for _ in range(5):
                run = drawn.beginning(chance, grant)
                self.assertTrue(fits(grant, run))
                end = run_on(sieve, run, told[2])
                self.assertEqual(end[8] and end[8][0], "answer", sieve)
                self.assertEqual([len(table[2]) for table in end[5]], [len(table[2]) for table in run[5]])

    def test_what_is_compiled_is_let_by(self):
        chance = random.Random(17)
        many = 0
        while many < 120:
            source = randoms.source(chance)
            grant = (chance.randint(0, 9), 16, 1, randoms.KINDS)
            try:
                sieve = compiled(source, grant)
            except TooMany:
                continue
            many += 1
            told = verdict(sieve, grant)
            self.assertEqual(told[0], "let by", source)
            run = randoms.packet(chance), randoms.tables(chance), randoms.word(chance)
            if len(run[0]) >= grant[0]:
                begun = ((0,) * 8, (0,) * 16, (0,) * 4, 0) + run + (0, None, 1)
                end = run_on(sieve, begun, min(20000, told[2]))
                self.assertEqual(end[8], ("answer", meant(source, *run)[0]))


class TestSurePlaces(unittest.TestCase):
    def test_each_row(self):
        grant = (4, 9, 1, (("array", 1, 4), ("pairs", 1, 3)))
        sieve = (
            ("byte", 1, 0, 0), ("pair", 2, 0, 0), ("write", 1, 0, 3), ("cell", 1, 0, 0), ("fill", 1, 0, 0), ("count", 0, 0),
            ("find", 3, 1, 0), ("whenn", "same", 3, 0, 11), ("value", 1, 1, 3), ("change", 1, 1, 3), ("jump", 12),
            ("set", 1, 1), ("answer", 1), ("byte", 1, 0, 0),
        )
        told = verdict(sieve, grant)
        self.assertEqual(told[0], "let by")
        self.assertEqual(sure_places(sieve, grant, told[1]), (0, 1, 2, 3, 4, 5, 6, 8, 9))

    def test_drawn(self):
        chance = random.Random(33)
        for _ in range(60):
            sieve = drawn.sieve(chance, 3)
            table = told_table(sieve, drawn.GRANT)
            if takes_table(sieve, drawn.GRANT, table):
                told = tuple(place for place, row in enumerate(sieve) if row[0] in EIGHT and table[place] is not None)
                self.assertEqual(sure_places(sieve, drawn.GRANT, table), told)
            else:
                with self.assertRaises(NotTaken):
                    sure_places(sieve, drawn.GRANT, table)

    def test_not_taken(self):
        for sieve, table in (
            ((("answer", 0),), (None,)), ((("jump", 0),), (entry(WIDE),)), ((("byte", 0, 0, 0),), (entry(WIDE),)),
            ((("set", 0, 1), ("answer", 0)), (entry(WIDE), None)),
        ):
            with self.assertRaises(NotTaken) as caught:
                sure_places(sieve, WIDE, table)
            self.assertEqual(vars(caught.exception), {})
