"""Points 20, 21 and 22: what is known in part."""

import random
import unittest

from suresieves.known import are_so, entry, is_known, is_known_state, is_so, is_within, join, room_of, tight
from suresieves.runs import begun
from tests.values import ANY, GRANT, RUN, STATE, STRANGE, TABLES, number, put, registers, run_with


def fitting(value):
    """All words that a tuple of seven lets be by its stretch and bits."""
    low, high, mask, bits = value[:4]
    return [word for word in range(low, high + 1) if word & mask == bits]


def random_value(chance, top=65535):
    """A known value, LOW up to top."""
    while True:
        low = chance.choice((0, 1, 5, chance.randint(0, top)))
        high = min(65535, low + chance.choice((0, 1, 7, 8, chance.randint(0, 300), chance.randint(0, 65535))))
        mask = chance.choice((0, 1, 7, 65535, 61440, chance.randint(0, 65535) & chance.randint(0, 65535)))
        bits = chance.choice((0, low, high, chance.randint(0, 65535))) & mask
        value = (low, high, mask, bits) + tuple(
            chance.choice((None, None, 0, 1, 4, chance.randint(0, most))) for most in (256, 256)
        ) + (chance.choice((None, None, 0, 1, 5)),)
        if is_known(value):
            return value


def random_state(chance, top=65535):
    stretches = [tuple(sorted((chance.randint(0, 100), chance.randint(0, 100)))) for _ in range(4)]
    length = tuple(sorted((chance.randint(0, 16), chance.randint(0, 256))))
    values = [random_value(chance, top) for _ in range(24)]
    return (tuple(values[:8]), tuple(values[8:]), tuple(stretches), length)


class TestValues(unittest.TestCase):
    def test_right(self):
        for value in (
            ANY, number(0), number(65535), (0, 0, 0, 0, 0, 0, 0), (1, 2, 65535, 2, 256, 256, 5),
            (0, 65535, 65535, 65535, None, 0, None), (8, 9, 1, 1, None, None, None), (32768, 65535, 32768, 32768, 0, 0, 0),
        ):
            with self.subTest(value=value):
                self.assertIs(is_known(value), True)

    def test_wrong(self):
        for value in (
            (1, 0) + ANY[2:], (-1, 5) + ANY[2:], (0, 65536) + ANY[2:], (65536, 65536) + ANY[2:],
            (0, 9, -1, 0) + ANY[4:], (0, 9, 65536, 0) + ANY[4:], (0, 9, 0, 1) + ANY[4:], (0, 9, 6, 7) + ANY[4:],
            (0, 9, 6, 1) + ANY[4:], (0, 9, 65535, 65536) + ANY[4:], (8, 8, 1, 1) + ANY[4:], (1, 3, 65535, 4) + ANY[4:],
            (0, 32767, 32768, 32768) + ANY[4:], (5, 6, 3, 3) + ANY[4:], (0, 9, 0, 0, -1, None, None),
            (0, 9, 0, 0, 257, None, None), (0, 9, 0, 0, None, -1, None), (0, 9, 0, 0, None, 257, None),
            (0, 9, 0, 0, None, None, -1), (0, 9, 0, 0, None, None, 6), ANY[:6], ANY + (None,), list(ANY), (ANY,),
        ):
            with self.subTest(value=value):
                self.assertIs(is_known(value), False)
        for index in range(7):
            for value in STRANGE + ((), (1,), 10 ** 30):
                self.assertIs(is_known(put(ANY, index, value)), index > 3 and value is None)

    def test_some_word_fits(self):
        chance = random.Random(1)
        seen = []
        for _ in range(400):
            low, high = sorted((chance.randint(0, 999), chance.randint(0, 999)))
            mask = chance.randint(0, 65535) & 1023
            value = (low, high, mask, chance.randint(0, 65535) & mask, None, None, None)
            seen.append(is_known(value))
            self.assertIs(seen[-1], bool(fitting(value)))
        self.assertGreater(min(seen.count(True), seen.count(False)), 50)

    def test_so(self):
        run = run_with(packet=(0,) * 14)
        for value, words, others in (
            (ANY, (0, 65535), ()), ((3, 5) + ANY[2:], (3, 4, 5), (2, 6, 65535)),
            ((0, 65535, 6, 2) + ANY[4:], (2, 3, 10, 65531), (0, 1, 4, 6, 65535)),
            (put(ANY, 4, 0), (14,), (13, 15, 0)), (put(ANY, 4, 4), (10,), (9, 11, 4)), (put(ANY, 4, 15), (), (0, 65535, 1)),
            (put(ANY, 4, 14), (0,), (1,)), (put(ANY, 5, 0), (0, 14), (15, 65535)), (put(ANY, 5, 4), (0, 10), (11, 14)),
            (put(ANY, 5, 14), (0,), (1, 14)), (put(ANY, 5, 15), (), (0, 1)), (put(ANY, 6, 1), (0, 1, 2), (3, 65535)),
            (put(ANY, 6, 0), (0,), (1, 2, 3)), (put(ANY, 6, 3), (0,), (1,)), (put(ANY, 6, 5), (0,), (1, 2)),
            (put(put(ANY, 4, 13), 6, 1), (1,), (2, 0)), (number(9), (9,), (8, 10)),
        ):
            for word in words:
                self.assertIs(is_so(value, word, run), True, (value, word))
            for word in others:
                self.assertIs(is_so(value, word, run), False, (value, word))
        self.assertIs(is_so(put(ANY, 6, 0), 1, run_with(tables=())), False)
        self.assertIs(is_so(put(ANY, 6, 0), 0, run_with(tables=())), True)


class TestTight(unittest.TestCase):
    def test_told(self):
        for value, told in (
            (ANY, ANY), (number(5), number(5)), ((7, 7) + ANY[2:], number(7)), ((0, 65535, 65535, 9) + ANY[4:], number(9)),
            ((0, 1) + ANY[2:], (0, 1, 65534, 0) + ANY[4:]), ((7, 8) + ANY[2:], (7, 8, 65520, 0) + ANY[4:]),
            ((32767, 32768) + ANY[2:], (32767, 32768, 0, 0) + ANY[4:]), ((65534, 65535) + ANY[2:], (65534, 65535, 65534, 65534) + ANY[4:]),
            ((1, 15, 12, 4) + ANY[4:], (4, 7, 65532, 4) + ANY[4:]), ((5, 13, 3, 1) + ANY[4:], (5, 13, 65523, 1) + ANY[4:]),
            ((0, 65535, 32769, 32769) + ANY[4:], (32769, 65535, 32769, 32769) + ANY[4:]),
            ((0, 64, 0, 0, 1, 2, 3), (0, 64, 65408, 0, 1, 2, 3)),
        ):
            with self.subTest(value=value):
                self.assertEqual(tight(value), told)

    def test_by_all_words(self):
        chance = random.Random(2)
        for _ in range(400):
            value = random_value(chance)
            words, told = fitting(value), tight(value)
            agreed = 65535
            while words[0] & agreed != words[-1] & agreed:
                agreed = agreed << 1 & 65535
            self.assertEqual(told[:2], (words[0], words[-1]))
            self.assertEqual(told[2:4], (value[2] | agreed, value[3] | words[0] & agreed))
            self.assertEqual(told[4:], value[4:])
            self.assertEqual(fitting(told), words)
            self.assertEqual(tight(told), told)
            self.assertIs(is_known(told), True)


class TestRoom(unittest.TestCase):
    def test_told(self):
        for value, least, room in (
            (ANY, 0, None), (ANY, 256, None), (number(0), 0, 0), (number(0), 256, 256), (number(5), 4, None),
            (number(5), 5, 0), (number(5), 14, 9), ((0, 64, 0, 0, 0, None, None), 0, 0), ((0, 64, 0, 0, 3, 9, None), 0, 9),
            ((0, 64, 0, 0, 9, 3, None), 0, 9), ((0, 64, 0, 0, 3, 9, None), 80, 16), ((0, 64, 0, 0, 3, 19, None), 80, 19),
            ((0, 64, 0, 0, None, 0, None), 63, 0), ((0, 64, 0, 0, None, None, 4), 64, 0), ((0, 64, 0, 0, 256, None, None), 256, 256),
        ):
            with self.subTest(value=value, least=least):
                self.assertEqual(room_of(value, least), room)

    def test_room_is_left(self):
        chance = random.Random(6)
        for _ in range(300):
            value, size = random_value(chance, 20), chance.randint(0, 40)
            run = begun((0,) * size, TABLES, 0, 0)
            room = room_of(value, chance.randint(0, size))
            for word in range(0, 60):
                if room is not None and is_so(value, word, run):
                    self.assertLessEqual(word + room, size)


class TestStates(unittest.TestCase):
    def test_right(self):
        for state in (
            STATE, put(STATE, 0, (ANY,) * 8), put(STATE, 1, (ANY,) * 16), put(STATE, 2, ((0, 100),) * 4),
            put(STATE, 2, ((100, 100), (0, 0), (3, 4), (0, 1))), put(STATE, 3, (0, 256)), put(STATE, 3, (256, 256)),
        ):
            self.assertIs(is_known_state(state), True)

    def test_wrong(self):
        for state in (
            STATE[:3], STATE + ((0, 0),), list(STATE), (), put(STATE, 0, (ANY,) * 7), put(STATE, 0, (ANY,) * 9),
            put(STATE, 1, (ANY,) * 15), put(STATE, 1, (ANY,) * 17), put(STATE, 2, ((0, 0),) * 3),
            put(STATE, 2, ((0, 0),) * 5), put(STATE, 3, (5, 4)), put(STATE, 3, (0, 257)), put(STATE, 3, (-1, 0)),
            put(STATE, 3, (0,)), put(STATE, 3, (0, 1, 2)), put(STATE, 3, [0, 1]), put(STATE, 0, [ANY] * 8),
            put(STATE, 1, [ANY] * 16), put(STATE, 2, [(0, 0)] * 4), put(STATE, 3, (True, 4)), put(STATE, 3, (0, True)),
        ):
            with self.subTest(state=state):
                self.assertIs(is_known_state(state), False)
        for index, many in ((0, 8), (1, 16), (2, 4)):
            for at in (0, many - 1):
                for value in STRANGE + ((), ANY[:6], (8, 8, 1, 1) + ANY[4:], (1, 0), (-1, 0), (0, 101), [0, 0], (0, 0, 0)):
                    self.assertIs(is_known_state(put(STATE, index, put(STATE[index], at, value))), False)
        for index in range(4):
            for value in STRANGE:
                self.assertIs(is_known_state(put(STATE, index, value)), False)

    def test_entry(self):
        self.assertEqual(entry((3, 9, 1, ())), ((number(0),) * 8, (number(0),) * 16, ((0, 0),) * 4, (3, 9)))
        self.assertIs(are_so(entry(GRANT), RUN), True)
        self.assertIs(is_known_state(entry((0, 0, 0, ()))), True)

    def test_are_so(self):
        loose = ((ANY,) * 8, (ANY,) * 16, ((0, 100),) * 4, (0, 256))
        self.assertIs(are_so(loose, RUN), True)
        self.assertIs(are_so(loose, run_with(registers=(65535,) * 8, slots=(1,) * 16, counters=(100, 0, 5, 5))), True)
        for at in range(8):
            state = put(loose, 0, put(loose[0], at, (1, 3) + ANY[2:]))
            for word, told in ((0, False), (1, True), (3, True), (4, False)):
                self.assertIs(are_so(state, run_with(registers=put((9,) * 8, at, word))), told)
        for at in range(16):
            state = put(loose, 1, put(loose[1], at, (1, 3) + ANY[2:]))
            for word, told in ((0, False), (1, True), (3, True), (4, False)):
                self.assertIs(are_so(state, run_with(slots=put((9,) * 16, at, word))), told)
        for at in range(4):
            state = put(loose, 2, put(loose[2], at, (2, 50)))
            for count, told in ((1, False), (2, True), (50, True), (51, False)):
                self.assertIs(are_so(state, run_with(counters=put((0,) * 4, at, count))), told)
        for size, told in ((4, False), (5, True), (6, True), (7, False)):
            self.assertIs(are_so(put(loose, 3, (5, 6)), run_with(packet=(0,) * size)), told)
        minus = put(loose, 0, (put(ANY, 4, 1),) + loose[0][1:])
        self.assertIs(are_so(minus, run_with(packet=(0,) * 5, registers=registers(4))), True)
        self.assertIs(are_so(minus, run_with(packet=(0,) * 5, registers=registers(5))), False)


def state_of(value, length=(0, 256)):
    """A state that tells something of register 0 and of how long the packet is alone."""
    return ((value,) + (ANY,) * 7, (ANY,) * 16, ((0, 100),) * 4, length)


class TestWithin(unittest.TestCase):
    def check(self, one, two, told, length=(0, 256)):
        with self.subTest(one=one, two=two):
            self.assertIs(is_within(state_of(one, length), state_of(two)), told)
            slot = put(state_of(ANY, length), 1, (ANY,) * 15 + (one,))
            self.assertIs(is_within(slot, put(state_of(ANY), 1, (ANY,) * 15 + (two,))), told)

    def test_values(self):
        for one, two, told in (
            (ANY, ANY, True), (number(5), ANY, True), (ANY, number(5), False), (number(5), number(5), True),
            ((3, 5) + ANY[2:], (3, 5) + ANY[2:], True), ((3, 5) + ANY[2:], (4, 5) + ANY[2:], False),
            ((3, 5) + ANY[2:], (3, 4) + ANY[2:], False), ((0, 9, 6, 2) + ANY[4:], (0, 9, 2, 2) + ANY[4:], True),
            ((0, 9, 6, 2) + ANY[4:], (0, 9, 4, 0) + ANY[4:], True), ((0, 9, 6, 2) + ANY[4:], (0, 9, 6, 6) + ANY[4:], False),
            ((0, 9, 6, 2) + ANY[4:], (0, 9, 7, 2) + ANY[4:], False), ((0, 9, 0, 0) + ANY[4:], (0, 9, 1, 0) + ANY[4:], False),
            (put(ANY, 4, 3), ANY, True), (put(ANY, 4, 3), put(ANY, 4, 3), True), (put(ANY, 4, 3), put(ANY, 4, 2), False),
            (ANY, put(ANY, 4, 3), False), (put(ANY, 6, 3), ANY, True), (put(ANY, 6, 3), put(ANY, 6, 3), True),
            (put(ANY, 6, 3), put(ANY, 6, 2), False), (ANY, put(ANY, 6, 3), False), (number(0), put(ANY, 6, 3), True),
            (put(number(0), 6, 1), put(ANY, 6, 3), True), (number(1), put(ANY, 6, 3), False),
            (put(ANY, 5, 3), ANY, True), (put(ANY, 5, 3), put(ANY, 5, 3), True), (put(ANY, 5, 3), put(ANY, 5, 4), False),
            (put(ANY, 5, 3), put(ANY, 5, 2), True), (ANY, put(ANY, 5, 0), False), (put(ANY, 4, 7), put(ANY, 5, 7), True),
            (put(ANY, 4, 7), put(ANY, 5, 8), False), (number(0), put(ANY, 5, 0), True), (number(0), put(ANY, 5, 1), False),
            (number(0), put(ANY, 4, 0), False),
        ):
            self.check(one, two, told)

    def test_room_by_the_length_of_the_first(self):
        self.check(number(5), put(ANY, 5, 9), True, (14, 20))
        self.check(number(5), put(ANY, 5, 10), False, (14, 20))
        state, other = state_of(number(5), (4, 4)), state_of(put(ANY, 5, 9), (0, 256))
        self.assertIs(is_within(state, other), False)
        self.assertIs(is_within(state_of(number(5), (14, 20)), state_of(put(ANY, 5, 9), (14, 20))), True)

    def test_stretches(self):
        for one, two, told in (((3, 5), (3, 5), True), ((3, 5), (4, 5), False), ((3, 5), (3, 4), False), ((3, 5), (0, 9), True)):
            self.assertIs(is_within(put(STATE, 3, one), put(STATE, 3, two)), told)
            for at in range(4):
                state = put(STATE, 2, put(STATE[2], at, one))
                self.assertIs(is_within(state, put(STATE, 2, put(STATE[2], at, two))), told)

    def test_then_the_other_is_so(self):
        chance = random.Random(7)
        found = 0
        for _ in range(6000):
            one, two = random_value(chance, 9), random_value(chance, 9)
            least = chance.randint(0, 12)
            if is_within(state_of(one, (least, 256)), state_of(two)):
                found += 1
                for size in (least, least + 1, 30):
                    run = begun((0,) * size, TABLES, 0, 0)
                    for word in range(24):
                        if is_so(one, word, run):
                            self.assertIs(is_so(two, word, run), True, (one, two, word, size))
        self.assertGreater(found, 20)


class TestJoin(unittest.TestCase):
    def check(self, one, two, told, length=(0, 256), other_length=(0, 256)):
        with self.subTest(one=one, two=two):
            joined = join(state_of(one, length), state_of(two, other_length))
            self.assertEqual(joined[0][0], told)
            slots = [put(state_of(ANY, size), 1, (ANY,) * 9 + (value,) + (ANY,) * 6)
                     for value, size in ((one, length), (two, other_length))]
            self.assertEqual(join(*slots)[1][9], told)

    def test_values(self):
        for one, two, told in (
            (ANY, ANY, ANY), (number(5), number(5), number(5)), (number(4), number(6), (4, 6, 65533, 4) + ANY[4:]),
            (number(6), number(5), (5, 6, 65532, 4) + ANY[4:]), ((0, 9) + ANY[2:], (20, 30) + ANY[2:], (0, 30, 65504, 0) + ANY[4:]),
            ((0, 65535, 7, 5) + ANY[4:], (0, 65535, 13, 1) + ANY[4:], (1, 65535, 1, 1) + ANY[4:]),
            (put(ANY, 4, 3), put(ANY, 4, 3), (0, 65535, 0, 0, 3, 3, None)),
            (put(ANY, 4, 3), put(ANY, 4, 5), put(ANY, 5, 3)), (put(ANY, 4, 3), ANY, ANY),
            (put(ANY, 5, 3), put(ANY, 5, 5), put(ANY, 5, 3)), (put(ANY, 5, 5), put(ANY, 4, 3), put(ANY, 5, 3)),
            (put(ANY, 5, 3), ANY, ANY), (ANY, put(ANY, 5, 3), ANY), (put(ANY, 6, 2), put(ANY, 6, 2), put(ANY, 6, 2)),
            (put(ANY, 6, 2), put(ANY, 6, 1), ANY), (put(ANY, 6, 2), ANY, ANY), (put(ANY, 6, 2), number(0), put(ANY, 6, 2)),
            (number(0), put(ANY, 6, 2), put(ANY, 6, 2)), (put(number(0), 6, 1), put(ANY, 6, 2), put(ANY, 6, 2)),
            (put(number(0), 6, 1), put(number(0), 6, 2), put(put(number(0), 6, 1), 5, 0)),
            (number(0), put(number(0), 6, 2), put(number(0), 5, 0)), (number(1), put(ANY, 6, 2), ANY),
        ):
            self.check(one, two, told)

    def test_rooms(self):
        five, nine = number(5), number(9)
        self.check(five, nine, (5, 9, 65523, 1, None, 5, None), (14, 20), (14, 30))
        self.check(five, nine, (5, 9, 65523, 1, None, 1, None), (14, 20), (10, 30))
        self.check(five, nine, (5, 9, 65523, 1) + ANY[4:], (14, 20), (8, 30))
        self.check(five, put(nine, 5, 256), (5, 9, 65523, 1, None, 251, None), (256, 256), (0, 30))
        self.check(put(ANY, 4, 256), put(ANY, 4, 256), (0, 65535, 0, 0, 256, 256, None))

    def test_stretches(self):
        one = put(put(STATE, 2, ((1, 5), (7, 9), (0, 0), (3, 3))), 3, (4, 8))
        two = put(put(STATE, 2, ((2, 9), (1, 3), (0, 0), (0, 100))), 3, (6, 7))
        self.assertEqual(join(one, two)[2:], (((1, 9), (1, 9), (0, 0), (0, 100)), (4, 8)))
        self.assertEqual(join(two, one)[2:], join(one, two)[2:])

    def test_both_are_within(self):
        chance = random.Random(9)
        for _ in range(150):
            states = []
            for _ in range(2):
                state = random_state(chance)
                states.append((tuple(map(tight, state[0])), tuple(map(tight, state[1]))) + state[2:])
            joined = join(*states)
            self.assertIs(is_known_state(joined), True)
            self.assertIs(is_within(states[0], joined), True)
            self.assertIs(is_within(states[1], joined), True)
            for value in joined[0] + joined[1]:
                self.assertEqual(tight(value), value)
