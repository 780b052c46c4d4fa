"""Group 2: stores, bits, bytes and halves."""

from tests.helper import ALL, DATA, M, MACL, Q, STATUS, T, TOP, ChipCase


class Stores(ChipCase):
    def test_at(self):
        before = {2: DATA, 3: 0x89ABCDEF}
        self.check(0x2230, before, changed={DATA: [0xEF]})
        self.check(0x2231, before, changed={DATA: [0xCD, 0xEF]})
        self.check(0x2232, before, changed={DATA: [0x89, 0xAB, 0xCD, 0xEF]})

    def test_at_every_place_of_four(self):
        for k in range(4):
            self.check(0x2230, {2: DATA + k, 3: 0x11223344}, changed={DATA + k: [0x44]})
        self.check(0x2231, {2: DATA + 2, 3: 0x11223344}, changed={DATA + 2: [0x33, 0x44]})

    def test_at_itself(self):
        self.check(0x2222, {2: DATA}, changed={DATA + 2: [3, 0]}, memory={DATA: [0, 0, 9, 9]})
        self.check(0x2220, {2: DATA + 1}, changed={DATA + 1: [1]})

    def test_below(self):
        for word, size, row in ((0x2234, 1, [0xEF]), (0x2235, 2, [0xCD, 0xEF]), (0x2236, 4, [0x89, 0xAB, 0xCD, 0xEF])):
            before = {2: DATA + size, 3: 0x89ABCDEF}
            self.check(word, before, {2: DATA}, changed={DATA: row})

    def test_below_with_itself(self):
        self.check(0x2224, {2: 0x305}, {2: 0x304}, changed={0x304: [0x05]})
        self.check(0x2225, {2: 0x306}, {2: 0x304}, changed={0x304: [0x03, 0x06]})
        self.check(0x2226, {2: 0x308}, {2: 0x304}, changed={0x306: [0x03, 0x08]})

    def test_below_the_end(self):
        self.check(0x2234, {2: 0x10000, 3: 7}, {2: 0xFFFF}, changed={0xFFFF: [7]})
        self.check(0x2235, {2: 0x10000, 3: 7}, {2: 0xFFFE}, changed={0xFFFF: [7]})
        self.check(0x2236, {2: 0x10000, 3: 7}, {2: 0xFFFC}, changed={0xFFFF: [7]})

    def test_below_0(self):
        for word in (0x2234, 0x2235, 0x2236, 0x2226):
            self.check_stop(4, word, {2: 0})


class Bits(ChipCase):
    def test_division_begins(self):
        plus, minus = 0x7FFFFFFF, 0x80000000
        for one, other, conditions in ((plus, plus, 0), (minus, plus, Q | T), (plus, minus, M | T), (minus, minus, Q | M)):
            before = {2: one, 3: other}
            self.check(0x2237, before, {STATUS: conditions}, status=0)
            self.check(0x2237, before, {STATUS: 0x0F2 | conditions}, status=ALL)

    def test_division_begins_with_itself(self):
        self.check(0x2227, {2: TOP}, {STATUS: Q | M}, status=T)
        self.check(0x2227, {2: 0}, {STATUS: 0}, status=Q | M | T)

    def test_none_in_common(self):
        for one, other, t in ((0, TOP, 1), (1, 1, 0), (0xF0F0F0F0, 0x0F0F0F0F, 1), (0x80000000, TOP, 0), (0, 0, 1)):
            self.check(0x2238, {2: one, 3: other}, t=t)
        self.check(0x2228, {2: 0}, t=1)
        self.check(0x2228, {2: 4}, t=0)

    def test_and_exclusive_or_or(self):
        before = {2: 0xFF00FF00, 3: 0xF0F0F0F0}
        self.check(0x2239, before, {2: 0xF000F000})
        self.check(0x223A, before, {2: 0x0FF00FF0})
        self.check(0x223B, before, {2: 0xFFF0FFF0})

    def test_with_itself(self):
        self.check(0x2229, {2: 0x12345678})
        self.check(0x222A, {2: 0x12345678}, {2: 0})
        self.check(0x222B, {2: 0x12345678})

    def test_same_byte(self):
        for other, t in (
                (0x99ABCDEF, 0), (0x12ABCDEF, 1), (0x9934CDEF, 1), (0x99AB56EF, 1), (0x99ABCD78, 1), (0x12345678, 1),
                (0x78563412, 0), (0x34127856, 0), (0, 0)):
            self.check(0x223C, {2: 0x12345678, 3: other}, t=t)
        self.check(0x223C, {2: 0x00FFFFFF, 3: 0}, t=1)
        self.check(0x222C, {2: 5}, t=1)

    def test_same_byte_by_each_bit(self):
        for bit in range(8):
            differing = 0x01010101 << bit
            self.check(0x223C, {2: 0x12345678, 3: 0x12345678 ^ differing}, t=0)
            for at in (0, 8, 16, 24):
                self.check(0x223C, {2: 0x12345678, 3: 0x12345678 ^ differing & ~(255 << at)}, t=1)

    def test_halves_joined(self):
        self.check(0x223D, {2: 0x11223344, 3: 0x55667788}, {2: 0x77881122})
        self.check(0x222D, {2: 0x11223344}, {2: 0x33441122})
        self.check(0x223D, {2: 0xFFFF0000, 3: 0x0000FFFF}, {2: TOP})
        self.check(0x223D, {2: 0x0000FFFF, 3: 0xFFFF0000}, {2: 0})


class Products(ChipCase):
    def test_without_signs(self):
        for one, other, product in (
                (0xAAAA0003, 0xBBBB0005, 15), (0xFFFF, 0xFFFF, 0xFFFE0001), (0x8000, 0x8000, 0x40000000),
                (0xFFFF0000, TOP, 0), (0xFFFF, 2, 0x1FFFE)):
            self.check(0x223E, {2: one, 3: other}, {MACL: product})

    def test_with_signs(self):
        for one, other, product in (
                (0xAAAA0003, 0xBBBB0005, 15), (0xFFFF, 0xFFFF, 1), (0x8000, 0x8000, 0x40000000),
                (0x8000, 0x7FFF, 0xC0008000), (0xFFFF, 2, 0xFFFFFFFE), (2, 0xFFFF, 0xFFFFFFFE), (0x7FFF, 0x7FFF, 0x3FFF0001)):
            self.check(0x223F, {2: one, 3: other}, {MACL: product})

    def test_same_register(self):
        self.check(0x222E, {2: 0x1FFFF}, {MACL: 0xFFFE0001})
        self.check(0x222F, {2: 0x1FFFF}, {MACL: 1})
