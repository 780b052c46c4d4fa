"""Points 1 and 2, and what the interface says of lists of calls."""

import contextlib
import io
import unittest

from slotchip.chip import answers
from tests.helper import (
    ALL, MACH, MACL, NOP, PLACE, PR, STATUS, TOP, ask, code, get, get_all, ground, laid, put, puts, reset, run)

WRONG = (-1, 23, -2147483648, 2147483647, -2, 24, 16 - 256, 22 + 256)


class Reset(unittest.TestCase):
    def fresh(self, rows):
        self.assertEqual(rows, [[0, 0]] * 23)

    def test_answers_0(self):
        self.assertEqual(answers([0]), [1, 0])

    def test_everything_is_0(self):
        self.fresh(ask(reset(), *get_all())[1:])

    def test_next_place_is_2(self):
        told = ask(reset(), run(2, code(NOP, NOP)), get(PLACE))
        self.assertEqual(told, [[0], [2, 0, 0], [0, 4]])

    def test_again_behind_sets(self):
        told = ask(reset(), *puts(ground(ALL)), reset(), *get_all())
        self.assertEqual(told[24], [0])
        self.fresh(told[25:])

    def test_again_while_a_jump_is_waiting(self):
        jump = code(0xA010)
        told = ask(reset(), run(1, jump), reset(), *get_all(), run(2, code(0xE105, 0xA000)), get(PLACE))
        self.assertEqual(told[1:3], [[1, 0, 0], [0]])
        self.fresh(told[3:26])
        self.assertEqual(told[26:], [[2, 0, 0], [0, 4]])

    def test_no_jump_is_waiting_behind_it(self):
        told = ask(reset(), run(1, code(0xA010)), reset(), run(1, code(0xA010)), get(PLACE))
        self.assertEqual(told[3:], [[1, 0, 0], [0, 2]])

    def test_two_in_a_row(self):
        self.assertEqual(ask(reset(), reset(), reset()), [[0], [0], [0]])


class SetAndGet(unittest.TestCase):
    def test_each_keeps_its_value(self):
        for which in list(range(16)) + list(range(17, 23)):
            for value in (0, TOP, 1, 0x80000000, 0x12345678):
                with self.subTest(which=which, value=value):
                    told = ask(reset(), put(which, 7), put(which, value), get(which))
                    self.assertEqual(told[1:], [[0], [0], [0, value]])

    def test_status_keeps_its_own_bits(self):
        for value, kept in ((0, 0), (TOP, 0x3F3), (0xFFFFFC0C, 0), (0x3F3, 0x3F3)):
            with self.subTest(value=value):
                told = ask(reset(), put(STATUS, value), get(STATUS))
                self.assertEqual(told[1:], [[0], [0, kept]])

    def test_each_bit_of_the_status(self):
        for bit in range(32):
            with self.subTest(bit=bit):
                told = ask(reset(), put(STATUS, 1 << bit), get(STATUS))
                self.assertEqual(told[2], [0, 1 << bit if bit in (0, 1, 4, 5, 6, 7, 8, 9) else 0])

    def test_each_leaves_the_others(self):
        state = ground(ALL)
        for which in range(23):
            for value in (0, TOP):
                with self.subTest(which=which, value=value):
                    expected = list(state)
                    expected[which] = value & ALL if which == STATUS else value
                    told = ask(reset(), *puts(state), put(which, value), *get_all())
                    self.assertEqual(told[25:], [[0, number] for number in expected])

    def test_halves_of_the_sum(self):
        told = ask(reset(), put(MACH, TOP), get(MACL), put(MACL, 5), get(MACH), put(MACH, 6), get(MACL), get(MACH))
        self.assertEqual(told[1:], [[0], [0, 0], [0], [0, TOP], [0], [0, 5], [0, 6]])

    def test_place_gives_the_next(self):
        told = ask(reset(), put(PLACE, 8), run(2, laid({8: code(NOP, NOP)})), get(PLACE))
        self.assertEqual(told[1:], [[0], [2, 0, 0], [0, 12]])

    def test_place_while_a_jump_is_waiting(self):
        program = laid({0: code(0xA010), 8: code(NOP, 0xAFFE)})
        told = ask(reset(), run(1, program), put(PLACE, 8), get(PLACE),
                   run(1, program), get(PLACE), run(1, program), get(PLACE))
        self.assertEqual(told[2:], [[0], [0, 8], [1, 0, 0], [0, 10], [1, 0, 0], [0, 12]])

    def test_place_set_to_what_it_is_lets_go_of_the_jump(self):
        program = code(0xA010, 0xA010)
        told = ask(reset(), run(1, program), put(PLACE, 2), run(1, program), get(PLACE))
        self.assertEqual(told[2:], [[0], [1, 0, 0], [0, 4]])

    def test_wrong_which_is_refused(self):
        for which in WRONG:
            with self.subTest(which=which):
                told = ask(reset(), put(which, 5), get(which), *get_all())
                self.assertEqual(told, [[0], [-2], [-2]] + [[0, 0]] * 23)

    def test_refusal_leaves_the_machine(self):
        state = ground(ALL)
        for which in WRONG:
            with self.subTest(which=which):
                told = ask(reset(), *puts(state), put(which, 0), get(which), *get_all())
                self.assertEqual(told[24:], [[-2], [-2]] + [[0, number] for number in state])

    def test_refusal_leaves_the_waiting_jump(self):
        told = ask(reset(), run(1, code(0xA010)), put(23, 0), get(-1), run(1, code(NOP, NOP)), get(PLACE))
        self.assertEqual(told[2:], [[-2], [-2], [1, 0, 0], [0, 0x24]])


class Interface(unittest.TestCase):
    # A jump, a store in the slot, a call of the system; T put into a register.
    line = (
        [0, 1, 1, 0x300, 1, 2, 0xABCD, 1, 16, 1]
        + run(10, code(0xA001, 0x2121, NOP, 0x0329, 0xC300))
        + [2, 3, 2, 99, 1, -5, 1, 3, -1, 0, 3, 0, 2, 7, 7, 2, 22])
    told = [
        1, 0, 1, 0, 1, 0, 1, 0,
        7, 4, 5, 4, 0x300, 0xAB, 0x301, 0xCD,
        2, 0, 1, 1, -2, 1, -2, 1, -2, 3, 0, 0, 0, 2, 0, 10]

    def test_answers_stand_behind_their_counts(self):
        self.assertEqual(answers(list(self.line)), self.told)

    def test_answers_are_a_list_of_whole_numbers(self):
        told = answers(list(self.line))
        self.assertIs(type(told), list)
        self.assertEqual({type(number) for number in told}, {int})

    def test_conditions_are_whole_numbers(self):
        # Each way to make T, then T moved to a register.
        for word in (0x0008, 0x0018, 0x2127, 0x2128, 0x212C, 0x3120, 0x3122, 0x3124, 0x312A, 0x312B, 0x312E, 0x312F,
                     0x4100, 0x4101, 0x4104, 0x4124, 0x4110, 0x4111, 0x4115, 0x411B, 0x612A, 0x8800, 0xC800, 0xCC00):
            with self.subTest(word=f"{word:04X}"):
                told = answers([0, *run(2, code(word, 0x0329)), 2, 3, 2, 16])
                self.assertEqual({type(number) for number in told}, {int})

    def test_what_is_handed_in_stays(self):
        line = list(self.line)
        answers(line)
        self.assertEqual(line, self.line)

    def test_what_is_handed_in_is_not_changed_for_a_while(self):
        class Watched(list):
            def changed(self, *given):
                raise AssertionError("the list of calls was changed")

            __setitem__ = __delitem__ = __iadd__ = __imul__ = changed
            append = clear = extend = insert = pop = remove = reverse = sort = changed

        self.assertEqual(answers(Watched(self.line)), self.told)

    def test_nothing_is_kept(self):
        line = list(self.line)
        other = [0, *put(16, TOP), *put(1, 5), *run(1, code(0xA010)), 2, 1]
        first = answers(line)
        self.assertEqual(answers(other), [1, 0, 1, 0, 1, 0, 3, 1, 0, 0, 2, 0, 5])
        self.assertEqual(answers(line), first)
        self.assertEqual(answers([0, 2, 1, 2, 16, 2, 22]), [1, 0, 2, 0, 0, 2, 0, 0, 2, 0, 0])
        self.assertEqual(answers(other), [1, 0, 1, 0, 1, 0, 3, 1, 0, 0, 2, 0, 5])

    def test_answer_is_the_callers_own(self):
        first = answers(list(self.line))
        first.clear()
        self.assertEqual(answers(list(self.line)), self.told)

    def test_prints_nothing(self):
        out, err = io.StringIO(), io.StringIO()
        with contextlib.redirect_stdout(out), contextlib.redirect_stderr(err):
            answers(list(self.line))
        self.assertEqual(out.getvalue() + err.getvalue(), "")

    def test_many_calls(self):
        told = ask(reset(), *[put(k % 16, k) for k in range(149)], *[get(k % 16) for k in range(149)], get(PR))
        self.assertEqual(len(told), 300)
        self.assertEqual(told[150:153], [[0, 144], [0, 145], [0, 146]])
        self.assertEqual(told[-1], [0, 0])

    def test_long_list(self):
        memory = code(0x7101, 0x001B) + [255] * 1020
        calls = [reset()] + [row for k in range(29) for row in (put(PLACE, 0), run(5, memory))] + [get(1)]
        self.assertLessEqual(sum(len(call) for call in calls), 30000)
        told = ask(*calls)
        self.assertEqual(told[2], [2, 6, 0])
        self.assertEqual(told[-1], [0, 29])


if __name__ == "__main__":
    unittest.main()
