"""Group 0: moves by R0, products, what is kept beside the registers, conditions, its jumps."""

from tests.helper import (
    ALL, DATA, GBR, MACH, MACL, NOP, PLACE, PR, Q, S, STATUS, T, TOP, VBR, ChipCase, ask, big, code, get, put, reset,
    run)

AT_P = 0x204


class Moves(ChipCase):
    def test_stores(self):
        before = {0: 0x100, 2: 0x204, 3: 0x89ABCDEF}
        self.check(0x0234, before, changed={0x304: [0xEF]})
        self.check(0x0235, before, changed={0x304: [0xCD, 0xEF]})
        self.check(0x0236, before, changed={0x304: [0x89, 0xAB, 0xCD, 0xEF]})

    def test_stores_of_r0_itself(self):
        self.check(0x0006, {0: 0x180}, changed={0x302: [0x01, 0x80]})
        self.check(0x0F04, {0: 0x181, 15: 0x180}, changed={0x301: [0x81]})

    def test_place_goes_round(self):
        self.check(0x0236, {0: 0xFFFFFFF0, 2: 0x310, 3: 0x01020304}, changed={DATA: [1, 2, 3, 4]})
        self.check(0x023E, {0: 0x310, 3: 0xFFFFFFF0}, {2: 0x01020304}, memory={DATA: [1, 2, 3, 4]})

    def test_loads_with_signs(self):
        for word, row, value in (
                (0x023C, [0x7F], 0x7F), (0x023C, [0x80], 0xFFFFFF80), (0x023C, [0xFF, 1], TOP), (0x023C, [0], 0),
                (0x023D, [0x7F, 0xFF], 0x7FFF), (0x023D, [0x80, 0x00], 0xFFFF8000), (0x023D, [0x12, 0x34], 0x1234),
                (0x023E, [0x80, 1, 2, 3], 0x80010203), (0x023E, [0x7F, 0xFF, 0xFF, 0xFE], 0x7FFFFFFE)):
            self.check(word, {0: 0x1F0, 3: 0x110}, {2: value}, memory={DATA: row})

    def test_load_into_r0_and_into_its_own(self):
        self.check(0x003E, {0: 0x1F0, 3: 0x110}, {0: 0x0A0B0C0D}, memory={DATA: [10, 11, 12, 13]})
        self.check(0x033E, {0: 0x1F0, 3: 0x110}, {3: 0x0A0B0C0D}, memory={DATA: [10, 11, 12, 13]})


class Products(ChipCase):
    def test_lower_32(self):
        for one, other, product in (
                (3, 5, 15), (0x10000, 0x10000, 0), (TOP, TOP, 1), (TOP, 2, 0xFFFFFFFE),
                (0x12345678, 0x9ABCDEF0, 0x242D2080), (0, TOP, 0)):
            self.check(0x0237, {2: one, 3: other}, {MACL: product})

    def test_same_register(self):
        self.check(0x0227, {2: 0x10001}, {MACL: 0x20001})


class Sums(ChipCase):
    def sums(self, one, other, status, before, after):
        registers = {2: 0x300, 3: 0x320, MACH: before >> 32, MACL: before & TOP}
        now = {2: 0x304, 3: 0x324, MACH: after >> 32, MACL: after & TOP}
        self.check(0x023F, registers, now, memory={0x300: big(one, 4), 0x320: big(other, 4)}, status=status)

    def test_plain(self):
        for status in (0, T, ALL & ~S, ALL, S):
            self.sums(3, 5, status, 7, 22)
            self.sums(-3, 5, status, 7, 2 ** 64 - 8)
            self.sums(-3, -5, status, 0xFFFFFFFF, 0x10000000E)
            self.sums(0x7FFFFFFF, 4, status, 0, 0x1FFFFFFFC)

    def test_goes_round_without_s(self):
        for status in (0, ALL & ~S):
            self.sums(1, 1, status, 2 ** 64 - 1, 0)
            self.sums(1, 1, status, 2 ** 63 - 1, 2 ** 63)
            self.sums(-1, 1, status, 2 ** 63, 2 ** 63 - 1)
            self.sums(1, 1, status, 2 ** 47 - 1, 2 ** 47)
            self.sums(-1, 1, status, 2 ** 64 - 2 ** 47, 2 ** 64 - 2 ** 47 - 1)
            self.sums(-2 ** 31, -2 ** 31, status, 0, 2 ** 62)
            self.sums(-2 ** 31, 2 ** 31 - 1, status, 0, 2 ** 64 - 2 ** 62 + 2 ** 31)

    def test_stops_at_its_ends_with_s(self):
        most = 2 ** 47 - 1
        least = 2 ** 64 - 2 ** 47
        for status in (S, ALL):
            self.sums(1, 1, status, most - 1, most)
            self.sums(1, 1, status, most, most)
            self.sums(0, 1, status, most, most)
            self.sums(-1, 1, status, most, most - 1)
            self.sums(-1, 1, status, least + 1, least)
            self.sums(-1, 1, status, least, least)
            self.sums(1, 1, status, least, least + 1)
            self.sums(-2 ** 31, -2 ** 31, status, 0, most)
            self.sums(-2 ** 31, 2 ** 31 - 1, status, 0, least)
            self.sums(2 ** 31 - 1, 2 ** 31 - 1, status, least, most)
            self.sums(2 ** 23, 2 ** 23, status, 0, 2 ** 46)
            self.sums(2 ** 24, 2 ** 23, status, 0, most)
            self.sums(-2 ** 24, 2 ** 23, status, 0, least)

    def test_same_register(self):
        memory = {DATA: big(-7, 4) + big(6, 4)}
        self.check(0x022F, {2: DATA, MACH: 0, MACL: 50}, {2: DATA + 8, MACH: 0, MACL: 8}, memory=memory)

    def test_second_read_stops_it(self):
        self.check_stop(4, 0x023F, {2: DATA, 3: 0x10000})
        self.check_stop(3, 0x023F, {2: DATA, 3: 0x302})
        self.check_stop(4, 0x022F, {2: 0xFFFC})
        self.check(0x022F, {2: 0xFFF8, MACH: 0}, {2: 0x10000})

    def test_first_read_stops_it(self):
        self.check_stop(4, 0x023F, {2: 0x10000, 3: DATA})
        self.check_stop(3, 0x023F, {2: 0x301, 3: DATA})

    def test_several_in_a_row(self):
        memory = code(0x012F, 0x012F, 0x012F) + [0] * 10 + big(1, 4) + big(2, 4) + big(3, 4) + big(4, 4) * 3
        told = ask(reset(), put(1, 16), put(2, 28), run(3, memory), get(1), get(2), get(MACH), get(MACL))
        self.assertEqual(told[3:], [[3, 0, 0], [0, 28], [0, 40], [0, 0], [0, 24]])


class Kept(ChipCase):
    def test_into_registers(self):
        for word, which in ((0x0512, GBR), (0x0522, VBR), (0x050A, MACH), (0x051A, MACL), (0x052A, PR)):
            self.check(word, {which: 0xFEDCBA98}, {5: 0xFEDCBA98})
            self.check(word & 0xF0FF | 0xF00, {which: 0}, {15: 0})

    def test_status_into_registers(self):
        for status in (0, ALL, T, S, Q, 0x200, 0x0F0, 0x010):
            self.check(0x0502, {}, {5: status}, status=status)

    def test_t_into_registers(self):
        self.check(0x0429, {}, {4: 0}, status=0)
        self.check(0x0429, {}, {4: 1}, status=T)
        self.check(0x0029, {}, {0: 0}, status=ALL & ~T)
        self.check(0x0F29, {}, {15: 1}, status=ALL)


class Conditions(ChipCase):
    def test_t(self):
        self.check(0x0008, t=0)
        self.check(0x0018, t=1)

    def test_sum_becomes_0(self):
        self.check(0x0028, {MACH: TOP, MACL: TOP}, {MACH: 0, MACL: 0})

    def test_nothing(self):
        self.check(NOP)

    def test_division_begins(self):
        self.check(0x0019, {}, {STATUS: 0x0F2}, status=ALL)
        self.check(0x0019, {}, {STATUS: 0}, status=0)

    def test_n_must_be_0(self):
        for word in (0x0008, 0x0018, 0x0028, 0x0009, 0x0019, 0x000B, 0x001B, 0x002B):
            for n in (1, 8, 15):
                self.check_stop(1, word | n << 8)


class Jumps(ChipCase):
    def test_by_register(self):
        self.check_jump(0x0723, AT_P + 0x40, {7: 0x40})
        self.check_jump(0x0723, AT_P - 0x40, {7: 0xFFFFFFC0})
        self.check_jump(0x0723, 0x7FFFFFFF, {7: 0x7FFFFFFF - AT_P})
        self.check_jump(0x0723, TOP, {7: TOP - AT_P})
        self.check_jump(0x0723, 0, {7: 2 ** 32 - AT_P})

    def test_call_by_register(self):
        self.check_jump(0x0703, AT_P + 0x40, {7: 0x40}, {PR: AT_P})
        self.check_jump(0x0003, AT_P - 2, {0: 0xFFFFFFFE}, {PR: AT_P})

    def test_come_back(self):
        for target in (0, 0x123456, TOP, 0x204):
            self.check_jump(0x000B, target, {PR: target})

    def test_come_back_with_status(self):
        memory = {DATA: big(0x00012344, 4) + big(TOP, 4)}
        self.check_jump(0x002B, 0x12344, {15: DATA}, {15: DATA + 8, STATUS: ALL}, memory)
        memory = {DATA: big(0xFFFFFFFE, 4) + big(0xFFFFFC0C, 4)}
        self.check_jump(0x002B, 0xFFFFFFFE, {15: DATA}, {15: DATA + 8, STATUS: 0}, memory, status=ALL)
        memory = {DATA: big(0x40, 4) + big(0x121, 4)}
        self.check_jump(0x002B, 0x40, {15: DATA}, {15: DATA + 8, STATUS: 0x121}, memory, status=0x2F2)

    def test_come_back_with_status_at_the_end(self):
        self.check_jump(0x002B, 0, {15: 0xFFF8}, {15: 0x10000, STATUS: 0}, status=ALL)
        self.check_stop(4, 0x002B, {15: 0xFFFC})
        self.check_stop(4, 0x002B, {15: 0x10000})
        self.check_stop(3, 0x002B, {15: 0x302})
        self.check_stop(4, 0x002B, {15: 0xFFFFFFFC})


class Sleep(ChipCase):
    def test_sleeps_and_is_passed(self):
        state, ran, now = self.do(0x001B, ALL, {}, {})
        self.assertEqual(ran, [1, 6, 0])
        state[PLACE] += 2
        self.assertEqual(now, state)
