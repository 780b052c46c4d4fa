"""Group 4: sums of products of 16 bits, shifts, what is kept beside the registers, its jumps."""

from tests.helper import (
    ALL, DATA, GBR, MACH, MACL, PR, S, STATUS, T, TOP, VBR, ChipCase, big)

LEAST, MOST = 0x80000000, 0x7FFFFFFF
AT_P = 0x204


class Sums(ChipCase):
    def sums(self, one, other, status, before, after):
        registers = {2: 0x300, 3: 0x320, MACH: before[0], MACL: before[1]}
        now = {2: 0x302, 3: 0x322, MACH: after[0], MACL: after[1]}
        self.check(0x423F, registers, now, memory={0x300: big(one, 2), 0x320: big(other, 2)}, status=status)

    def test_to_all_64_without_s(self):
        for status in (0, ALL & ~S):
            self.sums(3, 5, status, (0, 7), (0, 22))
            self.sums(-3, 5, status, (0, 7), (TOP, 0xFFFFFFF8))
            self.sums(-3, -5, status, (4, TOP), (5, 14))
            self.sums(1, 1, status, (TOP, TOP), (0, 0))
            self.sums(-1, 1, status, (0, 0), (TOP, TOP))
            self.sums(1, 1, status, (0, MOST), (0, LEAST))
            self.sums(-1, 1, status, (TOP, LEAST), (TOP, MOST))
            self.sums(1, 1, status, (MOST, TOP), (LEAST, 0))
            self.sums(-0x8000, -0x8000, status, (0, 0), (0, 0x40000000))
            self.sums(-0x8000, 0x7FFF, status, (0, 0), (TOP, 0xC0008000))
            self.sums(2 ** 7, 2 ** 7, status, (0x7FFF, TOP), (0x8000, 0x3FFF))

    def test_to_the_lower_half_with_s(self):
        for status in (S, ALL):
            self.sums(3, 5, status, (0x12345678, 7), (0x12345678, 22))
            self.sums(-3, 5, status, (4, 7), (4, 0xFFFFFFF8))
            self.sums(3, 5, status, (4, 0xFFFFFFF8), (4, 7))
            self.sums(1, 1, status, (4, MOST - 1), (4, MOST))
            self.sums(-1, 1, status, (4, LEAST + 1), (4, LEAST))
            self.sums(0, 1, status, (4, MOST), (4, MOST))
            self.sums(0, 1, status, (4, LEAST), (4, LEAST))
            self.sums(-1, 1, status, (4, MOST), (4, MOST - 1))
            self.sums(1, 1, status, (4, TOP), (4, 0))

    def test_stops_at_its_ends_with_s(self):
        for status in (S, ALL):
            self.sums(1, 1, status, (0, MOST), (1, MOST))
            self.sums(1, 1, status, (0xABCDEF00, MOST), (0xABCDEF01, MOST))
            self.sums(1, 1, status, (0xABCDEF01, MOST), (0xABCDEF01, MOST))
            self.sums(-1, 1, status, (0, LEAST), (1, LEAST))
            self.sums(-1, 1, status, (TOP - 1, LEAST), (TOP, LEAST))
            self.sums(-0x8000, -0x8000, status, (2, 0x40000000), (3, MOST))
            self.sums(-0x8000, 0x7FFF, status, (2, 0x80000001), (3, LEAST))

    def test_lowest_bit_stays_where_nothing_stopped(self):
        self.sums(1, 1, S, (1, 5), (1, 6))

    def test_same_register(self):
        memory = {DATA: big(-7, 2) + big(6, 2)}
        for status in (0, S):
            self.check(0x422F, {2: DATA, MACH: 0, MACL: 50}, {2: DATA + 4, MACH: 0, MACL: 8}, memory=memory, status=status)

    def test_second_read_stops_it(self):
        self.check_stop(4, 0x423F, {2: DATA, 3: 0x10000})
        self.check_stop(3, 0x423F, {2: DATA, 3: 0x303})
        self.check_stop(4, 0x422F, {2: 0xFFFE}, status=ALL)
        self.check(0x422F, {2: 0xFFFC}, {2: 0x10000})

    def test_first_read_stops_it(self):
        self.check_stop(4, 0x423F, {2: 0x10000, 3: DATA})
        self.check_stop(3, 0x423F, {2: 0x301, 3: DATA})


class Shifts(ChipCase):
    # i, Rn, then Rn and T; none of these reads T.
    rows = (
        (0x00, 0x40000001, 0x80000002, 0), (0x00, 0xC0000001, 0x80000002, 1), (0x00, TOP, 0xFFFFFFFE, 1), (0x00, 0, 0, 0),
        (0x20, 0x40000001, 0x80000002, 0), (0x20, 0xC0000001, 0x80000002, 1), (0x20, LEAST, 0, 1), (0x20, 0, 0, 0),
        (0x01, 0x80000002, 0x40000001, 0), (0x01, 0x80000003, 0x40000001, 1), (0x01, 1, 0, 1), (0x01, TOP, MOST, 1),
        (0x21, 0x80000002, 0xC0000001, 0), (0x21, 0x80000003, 0xC0000001, 1), (0x21, 1, 0, 1), (0x21, TOP, TOP, 1),
        (0x21, 0x7FFFFFFE, 0x3FFFFFFF, 0),
        (0x04, 0x40000001, 0x80000002, 0), (0x04, 0x80000001, 3, 1), (0x04, TOP, TOP, 1), (0x04, LEAST, 1, 1),
        (0x05, 0x80000002, 0x40000001, 0), (0x05, 0x80000001, 0xC0000000, 1), (0x05, TOP, TOP, 1), (0x05, 1, LEAST, 1),
        (0x10, 2, 1, 0), (0x10, 1, 0, 1), (0x10, 0, TOP, 0), (0x10, LEAST, MOST, 0),
    )

    def test_by_one(self):
        for i, before, after, t in self.rows:
            self.check(0x4600 | i, {6: before}, {6: after}, t=t)

    def test_through_t(self):
        for i, before, t, after, t_after in (
                (0x24, 0x40000001, 0, 0x80000002, 0), (0x24, 0x40000001, 1, 0x80000003, 0), (0x24, LEAST, 0, 0, 1),
                (0x24, TOP, 0, 0xFFFFFFFE, 1), (0x24, TOP, 1, TOP, 1), (0x24, 0, 1, 1, 0),
                (0x25, 0x80000002, 0, 0x40000001, 0), (0x25, 0x80000002, 1, 0xC0000001, 0), (0x25, 1, 0, 0, 1),
                (0x25, TOP, 0, MOST, 1), (0x25, TOP, 1, TOP, 1), (0x25, 0, 1, LEAST, 0)):
            for rest in (0, ALL & ~T):
                self.check(0x4600 | i, {6: before}, {6: after}, t=t_after, status=rest | t)

    def test_by_several(self):
        value = 0x89ABCDEF
        for i, after in (
                (0x08, 0x26AF37BC), (0x18, 0xABCDEF00), (0x28, 0xCDEF0000),
                (0x09, 0x226AF37B), (0x19, 0x0089ABCD), (0x29, 0x000089AB)):
            self.check(0x4600 | i, {6: value}, {6: after})

    def test_comparisons_with_0(self):
        for value, at_least, above in ((0, 1, 0), (1, 1, 1), (MOST, 1, 1), (LEAST, 0, 0), (TOP, 0, 0)):
            self.check(0x4611, {6: value}, t=at_least)
            self.check(0x4615, {6: value}, t=above)


class Kept(ChipCase):
    values = ((0x02, MACH), (0x12, MACL), (0x22, PR), (0x13, GBR), (0x23, VBR))

    def test_stored_below(self):
        for i, which in self.values:
            before = {6: DATA + 4, which: 0x89ABCDEF}
            self.check(0x4600 | i, before, {6: DATA}, changed={DATA: [0x89, 0xAB, 0xCD, 0xEF]})

    def test_status_stored_below(self):
        self.check(0x4603, {6: DATA + 4}, {6: DATA}, changed={DATA + 2: [0x03, 0xF3]}, status=ALL)
        self.check(0x4603, {6: DATA + 4}, {6: DATA}, changed={DATA: [0, 0, 1, 0x20]}, status=0x120,
                   memory={DATA: [9, 9, 9, 9]})
        self.check(0x4603, {6: DATA + 4}, {6: DATA}, changed={DATA + 2: [1, 0x21]}, status=0x121)

    def test_loaded(self):
        memory = {DATA: [0x89, 0xAB, 0xCD, 0xEF]}
        for i, which in self.values:
            self.check(0x4600 | i + 4, {6: DATA}, {6: DATA + 4, which: 0x89ABCDEF}, memory=memory)

    def test_status_loaded(self):
        self.check(0x4607, {6: DATA}, {6: DATA + 4, STATUS: ALL}, memory={DATA: [255] * 4}, status=0)
        self.check(0x4607, {6: DATA}, {6: DATA + 4, STATUS: 0}, memory={DATA: [255, 255, 0xFC, 0x0C]}, status=ALL)
        self.check(0x4607, {6: DATA}, {6: DATA + 4, STATUS: 0x121}, memory={DATA: [0, 0, 1, 0x21]}, status=0x2D2)

    def test_taken(self):
        for i, which in ((0x0A, MACH), (0x1A, MACL), (0x2A, PR), (0x1E, GBR), (0x2E, VBR)):
            for value in (0, TOP, 0x89ABCDEF):
                self.check(0x4600 | i, {6: value}, {which: value})

    def test_status_taken(self):
        self.check(0x460E, {6: TOP}, {STATUS: ALL})
        self.check(0x460E, {6: 0xFFFFFC0C}, {STATUS: 0})
        self.check(0x460E, {6: 0x121}, {STATUS: 0x121})

    def test_stops_leave_them(self):
        for i, which in self.values + ((0x03, STATUS),):
            self.check_stop(4, 0x4600 | i, {6: 0})
            self.check_stop(3, 0x4600 | i, {6: DATA + 2})
            self.check_stop(4, 0x4600 | i + 4, {6: 0x10000})
            self.check_stop(3, 0x4600 | i + 4, {6: DATA + 2}, status=ALL)


class Byte(ChipCase):
    def test_claimed(self):
        for before, after, t in ((0, 0x80, 1), (1, 0x81, 0), (0x7F, 0xFF, 0)):
            self.check(0x461B, {6: DATA + 1}, t=t, memory={DATA: [5, before, 7]}, changed={DATA + 1: [after]})

    def test_claimed_before(self):
        for byte in (0x80, 0xFF):
            self.check(0x461B, {6: DATA + 1}, t=0, memory={DATA: [0, byte, 0]})


class Jumps(ChipCase):
    def test_to_register(self):
        for target in (0, 0x40, 0x12345, TOP, AT_P):
            self.check_jump(0x472B, target, {7: target})

    def test_call_to_register(self):
        for target in (0, 0x40, 0x12345, TOP, AT_P):
            self.check_jump(0x470B, target, {7: target}, {PR: AT_P})
