"""Why it stops, 1 to 6, and that nothing is done where the document says so."""

import unittest

from tests.helper import (
    ALL, AT, DATA, GBR, NOP, PLACE, PR, STATUS, T, TOP, ChipCase, ask, code, get, get_all, ground, laid, put, puts, reset,
    run)

END = 0x10000

# What moves something: its word, its size, and the registers for which it moves it at a place.
MOVES = (
    (0x0234, 1, lambda place: {0: 0x10, 2: place - 0x10 & TOP}),
    (0x0235, 2, lambda place: {0: 0x10, 2: place - 0x10 & TOP}),
    (0x0236, 4, lambda place: {0: 0x10, 2: place - 0x10 & TOP}),
    (0x023C, 1, lambda place: {0: 0x10, 3: place - 0x10 & TOP}),
    (0x023D, 2, lambda place: {0: 0x10, 3: place - 0x10 & TOP}),
    (0x023E, 4, lambda place: {0: 0x10, 3: place - 0x10 & TOP}),
    (0x023F, 4, lambda place: {2: place, 3: DATA}),
    (0x023F, 4, lambda place: {2: DATA, 3: place}),
    (0x002B, 4, lambda place: {15: place - 4 & TOP}),
    (0x1232, 4, lambda place: {2: place - 8 & TOP}),
    (0x2230, 1, lambda place: {2: place}),
    (0x2231, 2, lambda place: {2: place}),
    (0x2232, 4, lambda place: {2: place}),
    (0x2234, 1, lambda place: {2: place + 1 & TOP}),
    (0x2235, 2, lambda place: {2: place + 2 & TOP}),
    (0x2236, 4, lambda place: {2: place + 4 & TOP}),
    (0x423F, 2, lambda place: {2: place, 3: DATA}),
    (0x423F, 2, lambda place: {2: DATA, 3: place}),
    (0x461B, 1, lambda place: {6: place}),
    (0x5232, 4, lambda place: {3: place - 8 & TOP}),
    (0x6230, 1, lambda place: {3: place}),
    (0x6231, 2, lambda place: {3: place}),
    (0x6232, 4, lambda place: {3: place}),
    (0x6234, 1, lambda place: {3: place}),
    (0x6235, 2, lambda place: {3: place}),
    (0x6236, 4, lambda place: {3: place}),
    (0x8032, 1, lambda place: {3: place - 2 & TOP}),
    (0x8132, 2, lambda place: {3: place - 4 & TOP}),
    (0x8432, 1, lambda place: {3: place - 2 & TOP}),
    (0x8532, 2, lambda place: {3: place - 4 & TOP}),
    (0xC002, 1, lambda place: {GBR: place - 2 & TOP}),
    (0xC102, 2, lambda place: {GBR: place - 4 & TOP}),
    (0xC202, 4, lambda place: {GBR: place - 8 & TOP}),
    (0xC402, 1, lambda place: {GBR: place - 2 & TOP}),
    (0xC502, 2, lambda place: {GBR: place - 4 & TOP}),
    (0xC602, 4, lambda place: {GBR: place - 8 & TOP}),
    (0xCC01, 1, lambda place: {0: 0x10, GBR: place - 0x10 & TOP}),
    (0xCD01, 1, lambda place: {0: 0x10, GBR: place - 0x10 & TOP}),
    (0xCE01, 1, lambda place: {0: 0x10, GBR: place - 0x10 & TOP}),
    (0xCF01, 1, lambda place: {0: 0x10, GBR: place - 0x10 & TOP}),
) + tuple(
    (0x4600 | i, 4, lambda place: {6: place + 4 & TOP}) for i in (0x02, 0x12, 0x22, 0x03, 0x13, 0x23)
) + tuple(
    (0x4600 | i, 4, lambda place: {6: place}) for i in (0x06, 0x16, 0x26, 0x07, 0x17, 0x27)
)

BARRED = (
    0x0503, 0x0523, 0x000B, 0x002B, 0x450B, 0x452B, 0x8900, 0x8B00, 0x8D00, 0x8F00, 0x9500, 0x95FF, 0xA000, 0xAFFF,
    0xB000, 0xB7FF, 0xC300, 0xC3FF, 0xC700, 0xC7FF, 0xD500, 0xD5FF)

ALLOWED = (
    NOP, 0x0008, 0x0018, 0x0028, 0x0019, 0x0502, 0x0512, 0x050A, 0x052A, 0x0529, 0x0567, 0x2567, 0x256C, 0x3564, 0x356D,
    0x4510, 0x450E, 0x452A, 0x6563, 0x75FF, 0xE501, 0x8805, 0xC805, 0xC905, 0xCA05, 0xCB05)


class NoInstruction(ChipCase):
    def test_nothing_is_done(self):
        for word in (0x0000, 0x2233, 0x3231, 0x3239, 0x4614, 0x8200, 0xF000, 0xFFFF):
            self.check_stop(1, word, status=ALL)

    def test_those_before_are_counted(self):
        told = ask(reset(), run(9, code(0xE105, NOP, 0xF123)), get(1), get(PLACE))
        self.assertEqual(told[1:], [[2, 1, 0], [0, 5], [0, 4]])

    def test_again_and_again(self):
        memory = code(0x0000)
        self.assertEqual(ask(reset(), run(9, memory), run(9, memory))[1:], [[0, 1, 0]] * 2)


class BehindAJump(ChipCase):
    jumps = (
        (0xA010, {}), (0xB010, {}), (0x0123, {}), (0x0103, {}), (0x412B, {}), (0x410B, {}), (0x000B, {}),
        (0x8D10, {STATUS: T}), (0x8F10, {STATUS: 0}), (0x002B, {15: DATA}))

    def behind(self, jump, before, word):
        state = ground(0)
        for which, value in before.items():
            state[which] = value
        memory = laid({AT: code(jump, word)})
        return ask(reset(), *puts(state), run(1, memory), *get_all(), run(9, memory), *get_all())[24:]

    def test_each_that_must_not(self):
        for word in BARRED:
            with self.subTest(word=f"{word:04X}"):
                told = self.behind(0xA010, {15: DATA}, word)
                self.assertEqual(told[0], [1, 0, 0])
                self.assertEqual(told[24], [0, 2, 0])
                self.assertEqual(told[25:], told[1:24])
                self.assertEqual(told[23], [0, AT + 2])

    def test_whatever_t_is(self):
        for status in (0, T):
            for word in (0x8900, 0x8B00, 0x8D00, 0x8F00):
                with self.subTest(word=f"{word:04X}", status=status):
                    self.assertEqual(self.behind(0xA010, {STATUS: status}, word)[24], [0, 2, 0])

    def test_behind_each_jump(self):
        for jump, before in self.jumps:
            for word in (0xA000, 0xC300, 0xD500):
                with self.subTest(jump=f"{jump:04X}", word=f"{word:04X}"):
                    told = self.behind(jump, before, word)
                    self.assertEqual(told[0], [1, 0, 0])
                    self.assertEqual(told[24], [0, 2, 0])
                    self.assertEqual(told[25:], told[1:24])

    def test_each_that_may(self):
        for word in ALLOWED:
            with self.subTest(word=f"{word:04X}"):
                told = ask(reset(), run(2, code(0xA010, word)), get(PLACE))
                self.assertEqual(told[1:], [[2, 0, 0], [0, 0x24]])

    def test_moves_may(self):
        for word, size, before in MOVES:
            if word != 0x002B:
                with self.subTest(word=f"{word:04X}"):
                    sets = [put(which, value) for which, value in before(DATA).items()]
                    told = ask(reset(), *sets, run(2, code(0xA010, word)), get(PLACE))
                    self.assertEqual((told[-2][:2], told[-1]), ([2, 0], [0, 0x24]))

    def test_not_behind_a_leap(self):
        for word, why in ((0xA000, 0), (0xC300, 5), (0xD500, 0), (0x9500, 0), (0xC700, 0), (0x8900, 0)):
            told = ask(reset(), put(STATUS, T), run(2, laid({0: code(0x8906), 0x10: code(word)})))
            self.assertEqual(told[2], [2, why, 0])

    def test_not_where_no_jump_was_made(self):
        for jump, status in ((0x8D10, 0), (0x8F10, T)):
            told = ask(reset(), put(STATUS, status), run(2, code(jump, 0xA010)), get(PLACE))
            self.assertEqual(told[2:], [[2, 0, 0], [0, 4]])

    def test_not_two_behind(self):
        told = ask(reset(), run(3, laid({0: code(0xA006, NOP), 0x10: code(0xA010)})), get(PLACE))
        self.assertEqual(told[1:], [[3, 0, 0], [0, 0x12]])

    def test_no_instruction_there(self):
        self.assertEqual(ask(reset(), run(2, code(0xA010, 0xF000)))[1], [1, 1, 0])


class Places(ChipCase):
    def test_last_and_first(self):
        for word, size, before in MOVES:
            with self.subTest(word=f"{word:04X}"):
                state, ran, now = self.do(word, 0, before(END - size), {})
                self.assertEqual(ran[:2], [1, 0])
                self.check_stop(4, word, before(END))
                self.check_stop(4, word, before(END), status=ALL)

    def test_far_away(self):
        for word, size, before in MOVES:
            for place in (0x80000000, 2 ** 32 - size, END + 4, 0x10000 + DATA, 0xFFFF0000):
                self.check_stop(4, word, before(place))

    def test_not_a_multiple(self):
        for word, size, before in MOVES:
            for more in range(1, size):
                self.check_stop(3, word, before(DATA + more), memory={DATA: [0x12, 0x34, 0x56, 0x78, 0x9A] * 2})

    def test_multiples_of_2_do_for_16_bits(self):
        for word, size, before in MOVES:
            if size == 2:
                state, ran, now = self.do(word, 0, before(DATA + 2), {})
                self.assertEqual(ran[:2], [1, 0])

    def test_first_place(self):
        for word, size, before in MOVES:
            if word != 0x002B:
                state, ran, now = self.do(word, 0, before(0), {})
                self.assertEqual(ran[:2], [1, 0])

    def test_not_a_multiple_comes_before_not_within(self):
        self.check_stop(3, 0x6232, {3: 0xFFFE})
        self.check_stop(3, 0x6231, {3: 0xFFFF})
        self.check_stop(3, 0x2232, {2: TOP})


class ThisPlace(unittest.TestCase):
    def test_odd(self):
        state = ground(ALL)
        for place in (1, 3, 0x201, 0xFFFF):
            state[PLACE] = place
            told = ask(reset(), *puts(state), run(9, code(NOP) * 300), *get_all())
            self.assertEqual(told[24:], [[0, 3, 0]] + [[0, number] for number in state])

    def test_not_within(self):
        state = ground(ALL)
        for place in (0x10000, 0x10002, 0x80000000, 0xFFFFFFFE):
            state[PLACE] = place
            told = ask(reset(), *puts(state), run(9, code(NOP) * 300), *get_all())
            self.assertEqual(told[24:], [[0, 4, 0]] + [[0, number] for number in state])

    def test_odd_comes_before_not_within(self):
        for place in (0x10001, TOP):
            self.assertEqual(ask(reset(), put(PLACE, place), run(9))[2], [0, 3, 0])

    def test_last_place(self):
        self.assertEqual(ask(reset(), put(PLACE, 0xFFFE), run(9))[2], [0, 1, 0])

    def test_goes_off_the_end(self):
        # NOP is written to the last place, and one goes there.
        told = ask(reset(), put(1, 0xFFFE), put(2, NOP), run(9, code(0x2121, 0x412B, NOP)), get(PLACE))
        self.assertEqual(told[3:], [[4, 4, 2, 0xFFFF, NOP], [0, 0x10000]])

    def test_jump_at_the_end(self):
        told = ask(reset(), put(1, 0xFFFE), put(2, 0xA010), run(9, code(0x2121, 0x412B, NOP)), get(PLACE))
        self.assertEqual(told[3:], [[4, 4, 4, 0xFFFE, 0xA0, 0xFFFF, 0x10], [0, 0x10000]])

    def test_call_at_the_end(self):
        told = ask(reset(), put(1, 0xFFFE), put(2, 0xB010), run(9, code(0x2121, 0x412B, NOP)), get(PR), get(PLACE))
        self.assertEqual(told[3:], [[4, 4, 4, 0xFFFE, 0xB0, 0xFFFF, 0x10], [0, 0x10002], [0, 0x10000]])

    def test_jump_to_a_bad_place(self):
        for target, why in ((0x21, 3), (0x10000, 4), (0xFFFFFFFE, 4)):
            told = ask(reset(), put(1, target), run(9, code(0x412B, 0xE505)), get(5), get(PLACE))
            self.assertEqual(told[2:], [[2, why, 0], [0, 5], [0, target]])

    def test_leap_to_a_bad_place(self):
        told = ask(reset(), run(9, code(0x8BF0)), get(PLACE))
        self.assertEqual(told[1:], [[1, 4, 0], [0, 0xFFFFFFE4]])

    def test_come_back_to_a_bad_place(self):
        told = ask(reset(), put(PR, 0x41), run(9, code(0x000B, NOP)), get(PLACE))
        self.assertEqual(told[2:], [[2, 3, 0], [0, 0x41]])


class Passed(unittest.TestCase):
    def test_counted(self):
        for word, why in ((0xC300, 5), (0xC3AB, 5), (0x001B, 6)):
            told = ask(reset(), run(9, code(NOP, word, NOP, word)), get(PLACE), run(9, code(0, 0, NOP, word)), get(PLACE))
            self.assertEqual(told[1:], [[2, why, 0], [0, 4], [2, why, 0], [0, 8]])

    def test_sleeps_behind_a_jump(self):
        told = ask(reset(), run(9, code(0xA00E, 0x001B)), get(PLACE), run(1, laid({0x20: code(0xA000)})), get(PLACE))
        self.assertEqual(told[1:], [[2, 6, 0], [0, 0x20], [1, 0, 0], [0, 0x22]])

    def test_why_is_not_kept(self):
        told = ask(reset(), run(9, code(0xC300)), run(0), run(1, code(0, NOP)))
        self.assertEqual(told[1:], [[1, 5, 0], [0, 0, 0], [1, 0, 0]])


if __name__ == "__main__":
    unittest.main()
