"""Point 3: how many steps, the memory of each run, bytes that are others now, jumps that wait between calls."""

import unittest

from tests.helper import (
    ALL, DATA, MACL, NOP, PLACE, PR, STATUS, T, TOP, ask, code, get, get_all, ground, laid, pairs, put, puts, reset, run)


class Steps(unittest.TestCase):
    count = code(0x7101, 0xAFFD, NOP)

    def test_wrong_steps_are_refused(self):
        for steps in (-1, 1000001, -2147483648, 2147483647):
            with self.subTest(steps=steps):
                told = ask(reset(), run(steps, self.count), *get_all())
                self.assertEqual(told, [[0], [-2]] + [[0, 0]] * 23)

    def test_refusal_leaves_the_machine(self):
        state = ground(ALL)
        for steps in (-1, 1000001):
            for memory in ([], self.count, [255] * 1024):
                with self.subTest(steps=steps, length=len(memory)):
                    told = ask(reset(), *puts(state), run(steps, memory), *get_all())
                    self.assertEqual(told[24:], [[-2]] + [[0, number] for number in state])

    def test_refusal_leaves_the_waiting_jump(self):
        told = ask(reset(), run(1, code(0xA010)), run(-1, code(NOP)), run(1000001), run(1, code(NOP, NOP)), get(PLACE))
        self.assertEqual(told[2:], [[-2], [-2], [1, 0, 0], [0, 0x24]])

    def test_none(self):
        state = ground(ALL)
        for memory in ([], self.count, [255] * 1024):
            told = ask(reset(), *puts(state), run(0, memory), *get_all())
            self.assertEqual(told[24:], [[0, 0, 0]] + [[0, number] for number in state])

    def test_none_where_it_would_stop(self):
        for place in (1, 0x10000, TOP):
            told = ask(reset(), put(PLACE, place), run(0), get(PLACE))
            self.assertEqual(told[2:], [[0, 0, 0], [0, place]])

    def test_some(self):
        for steps, count, place in ((1, 1, 2), (2, 1, 4), (3, 1, 0), (4, 2, 2), (30, 10, 0), (999, 333, 0)):
            told = ask(reset(), run(steps, self.count), get(1), get(PLACE))
            self.assertEqual(told[1:], [[steps, 0, 0], [0, count], [0, place]])

    def test_most(self):
        told = ask(reset(), run(1000000, self.count), get(1), get(PLACE))
        self.assertEqual(told[1:], [[1000000, 0, 0], [0, 333334], [0, 2]])

    def test_enough_steps_come_before_a_stop(self):
        memory = code(NOP, 0x0000)
        told = ask(reset(), run(1, memory), run(1, memory), get(PLACE))
        self.assertEqual(told[1:], [[1, 0, 0], [0, 1, 0], [0, 2]])

    def test_last_step_calls_the_system_or_sleeps(self):
        for word, why in ((0xC300, 5), (0x001B, 6)):
            told = ask(reset(), run(2, code(NOP, word)), get(PLACE))
            self.assertEqual(told[1:], [[2, why, 0], [0, 4]])


class Memory(unittest.TestCase):
    def test_of_no_bytes(self):
        self.assertEqual(ask(reset(), run(5))[1], [0, 1, 0])

    def test_of_1024_bytes(self):
        memory = [NOP if place % 2 else 0 for place in range(1024)]
        told = ask(reset(), run(5000, memory), get(PLACE))
        self.assertEqual(told[1:], [[512, 1, 0], [0, 1024]])

    def test_its_last_byte_is_read(self):
        told = ask(reset(), put(1, 1023), put(2, 1024), run(2, laid({0: code(0x6310, 0x6420), 1023: [0x45]})), get(3), get(4))
        self.assertEqual(told[3:], [[2, 0, 0], [0, 0x45], [0, 0]])

    def test_of_an_odd_count(self):
        told = ask(reset(), run(3, [0xE2, 0x11, 0x63]), get(2), get(3))
        self.assertEqual(told[1:], [[2, 1, 0], [0, 0x11], [0, 0xFFFFFFE2]])

    def test_is_told_anew(self):
        store = code(0x2122)
        load = code(0, 0x6312)
        told = ask(reset(), put(1, DATA), put(2, 0x01020304), run(1, store), run(1, load), get(3))
        self.assertEqual(told[3], [1, 0, 8] + pairs({DATA: [1, 2, 3, 4]}))
        self.assertEqual(told[4:], [[1, 0, 0], [0, 0]])

    def test_all_else_stays(self):
        state = ground(ALL)
        state[PLACE] = 0
        told = ask(reset(), *puts(state), run(1, code(NOP)), run(1, code(0, NOP)), run(0), *get_all())
        state[PLACE] = 4
        self.assertEqual(told[27:], [[0, number] for number in state])


class Changed(unittest.TestCase):
    def test_in_order_of_places(self):
        places = (0xFFFC, DATA, 0x8000, 0x10, 0x400)
        sets = [put(1 + k, place) for k, place in enumerate(places)] + [put(0, 0x01020304)]
        program = code(*[0x2002 | 1 + k << 8 for k in range(5)])
        told = ask(reset(), *sets, run(5, program))
        self.assertEqual(told[-1], [5, 0, 40] + pairs({place: [1, 2, 3, 4] for place in places}))

    def test_only_the_bytes_that_are_others(self):
        memory = laid({0: code(0x2122), DATA: [1, 9, 3, 9]})
        told = ask(reset(), put(1, DATA), put(2, 0x01020304), run(1, memory))
        self.assertEqual(told[-1], [1, 0, 4, DATA + 1, 2, DATA + 3, 4])

    def test_written_and_as_they_were_again(self):
        memory = laid({0: code(0x2122, 0x2132), DATA: [1, 2, 3, 4]})
        told = ask(reset(), put(1, DATA), put(2, TOP), put(3, 0x01020304), run(1, memory), put(PLACE, 0), run(2, memory))
        self.assertEqual(told[4], [1, 0, 8] + pairs({DATA: [255] * 4}))
        self.assertEqual(told[6], [2, 0, 0])

    def test_written_to_0(self):
        told = ask(reset(), put(1, DATA), run(2, laid({0: code(0x2122, NOP), DATA: [5, 0, 0, 7, 8]})))
        self.assertEqual(told[2], [2, 0, 4, DATA, 0, DATA + 3, 0])
        told = ask(reset(), put(1, 0x8000), run(2, code(0x2122, NOP)))
        self.assertEqual(told[2], [2, 0, 0])

    def test_written_before_it_stops(self):
        for words, ran in (
                ((0x2120, 0x0000), [1, 1]), ((0x2120, 0xA000, 0xA000), [2, 2]), ((0x2120, 0x6332), [1, 3]),
                ((0x2120, 0x6442), [1, 4]), ((0x2120, 0xC300), [2, 5]), ((0x2120, 0x001B), [2, 6])):
            told = ask(reset(), put(1, DATA), put(2, 7), put(3, 2), put(4, 0x10000), run(9, code(*words)))
            self.assertEqual(told[-1], ran + [2, DATA, 7])

    def test_first_and_last_place(self):
        told = ask(reset(), put(1, 0xFFFF), put(2, 0x81), run(2, code(0x2120, 0x2020)))
        self.assertEqual(told[-1], [2, 0, 4, 0, 0x81, 0xFFFF, 0x81])

    def test_every_byte_of_memory(self):
        # R1 goes down from the end by four; the program at the beginning is left.
        program = code(0x2126, 0x3130, 0x8BFC, 0xC300)
        told = ask(reset(), put(1, 0x10000), put(2, 0x11223344), put(3, 8), run(1000000, program))
        expected = pairs({place: [0x11, 0x22, 0x33, 0x44] for place in range(8, 0x10000, 4)})
        self.assertEqual(told[-1][2:], [len(expected)] + expected)
        self.assertEqual(told[-1][:2], [3 * 16382 + 1, 5])

    def test_instructions_that_are_written_are_done(self):
        memory = code(0x2121, NOP, 0xE301)
        told = ask(reset(), put(1, 4), put(2, 0xE322), run(3, memory), get(3))
        self.assertEqual(told[3:], [[3, 0, 2, 5, 0x22], [0, 0x22]])

    def test_same_word_means_the_same_later(self):
        told = ask(reset(), put(1, 2), put(2, 0x7301), run(4, code(0x7301, 0x7302, 0x2121, 0xAFFB)), get(3))
        self.assertEqual(told[3], [4, 0, 2, 3, 1])
        self.assertEqual(told[4], [0, 3])


class Waiting(unittest.TestCase):
    jump = laid({0: code(0xA00E), 2: code(0xE511), 0x20: code(0xE522, 0xE533)})

    def test_instruction_behind_is_done_before(self):
        told = ask(reset(), run(2, self.jump), get(5), get(PLACE), run(1, self.jump), get(5), get(PLACE))
        self.assertEqual(told[1:], [[2, 0, 0], [0, 0x11], [0, 0x20], [1, 0, 0], [0, 0x22], [0, 0x22]])

    def test_between_calls(self):
        other = laid({2: code(0x7501), 0x20: code(0x7510)})
        told = ask(reset(), run(1, self.jump), get(PLACE), put(5, 1), get(5), run(1, other), get(5), get(PLACE),
                   run(1, other), get(5), get(PLACE))
        self.assertEqual(told[1:], [
            [1, 0, 0], [0, 2], [0], [0, 1], [1, 0, 0], [0, 2], [0, 0x20], [1, 0, 0], [0, 0x12], [0, 0x22]])

    def test_each_set_but_the_place_leaves_it(self):
        for which in range(22):
            told = ask(reset(), run(1, self.jump), put(which, TOP), run(0), run(1, code(NOP, NOP)), get(PLACE))
            self.assertEqual(told[4:], [[1, 0, 0], [0, 0x20]])

    def test_behind_is_still_barred(self):
        told = ask(reset(), run(1, self.jump), run(5, code(NOP, 0xA000)), get(PLACE), run(1, code(NOP, NOP)), get(PLACE))
        self.assertEqual(told[2:], [[0, 2, 0], [0, 2], [1, 0, 0], [0, 0x20]])

    def test_stays_where_the_instruction_behind_stops(self):
        for behind, why in ((0x0000, 1), (0xA000, 2), (0x6112, 3), (0x6222, 4)):
            told = ask(reset(), put(1, 1), put(2, 0x10000), run(9, code(0xA00E, behind)), get(PLACE), put(3, 7),
                       run(1, code(NOP, NOP)), get(PLACE))
            self.assertEqual(told[3:], [[1, why, 0], [0, 2], [0], [1, 0, 0], [0, 0x20]])

    def test_is_over_behind_it(self):
        told = ask(reset(), run(4, laid({0: code(0xA00E, NOP), 0x20: code(0xAFEE, NOP)})), get(PLACE))
        self.assertEqual(told[1:], [[4, 0, 0], [0, 0]])

    def test_jump_to_where_one_would_go_anyway(self):
        program = code(0xA000, 0xE511, 0xE622)
        told = ask(reset(), run(3, program), get(5), get(6), get(PLACE))
        self.assertEqual(told[1:], [[3, 0, 0], [0, 0x11], [0, 0x22], [0, 6]])
        told = ask(reset(), run(1, code(0xA000)), run(1, code(NOP, 0xA000)), get(PLACE))
        self.assertEqual(told[2:], [[0, 2, 0], [0, 2]])

    def test_jump_to_the_instruction_behind(self):
        told = ask(reset(), run(4, code(0xAFFF, 0x7501, 0x7510)), get(5), get(PLACE))
        self.assertEqual(told[1:], [[4, 0, 0], [0, 0x12], [0, 6]])

    def test_call_and_come_back(self):
        program = laid({0: code(0xB00E, 0x7501, 0x7510, 0x001B), 0x20: code(0x000B, 0x7540)})
        told = ask(reset(), run(99, program), get(5), get(PR), get(PLACE))
        self.assertEqual(told[1:], [[6, 6, 0], [0, 0x51], [0, 4], [0, 8]])

    def test_what_is_behind_sees_what_the_jump_did(self):
        # PR is P already; the target was taken before the instruction behind changed its register.
        told = ask(reset(), put(1, 0x20), run(2, code(0x410B, 0x012A)), get(1), get(PLACE))
        self.assertEqual(told[2:], [[2, 0, 0], [0, 4], [0, 0x20]])
        told = ask(reset(), put(PR, 0x20), put(1, 0x40), run(2, code(0x000B, 0x412A)), get(PR), get(PLACE))
        self.assertEqual(told[3:], [[2, 0, 0], [0, 0x40], [0, 0x20]])

    def test_condition_is_read_by_the_jump_alone(self):
        told = ask(reset(), put(STATUS, T), run(2, code(0x8D0E, 0x0008)), get(STATUS), get(PLACE))
        self.assertEqual(told[2:], [[2, 0, 0], [0, 0], [0, 0x20]])
        told = ask(reset(), run(2, code(0x8D0E, 0x0018)), get(STATUS), get(PLACE))
        self.assertEqual(told[1:], [[2, 0, 0], [0, T], [0, 4]])


class Program(unittest.TestCase):
    def test_sum_of_bytes(self):
        # R1 walks over R2 bytes; R3 is their sum.
        program = laid({0: code(0x6414, 0x4210, 0x8FFC, 0x334C, 0xC300), DATA: [1, 2, 3, 250, 5]})
        told = ask(reset(), put(1, DATA), put(2, 5), run(1000, program), get(1), get(3))
        self.assertEqual(told[3:], [[21, 5, 0], [0, DATA + 5], [0, 5]])

    def test_factorial(self):
        program = code(0xE101, 0x0217, 0x011A, 0x4210, 0x8BFB, 0x001B)
        told = ask(reset(), put(2, 10), run(1000, program), get(1), get(MACL))
        self.assertEqual(told[2:], [[42, 6, 0], [0, 3628800], [0, 3628800]])


if __name__ == "__main__":
    unittest.main()
