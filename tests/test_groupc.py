"""Group C: R0 and memory by GBR, R0 and numbers, the call of the system, a place near this one."""

from tests.helper import ALL, AT, DATA, GBR, PLACE, TOP, ChipCase


class Moves(ChipCase):
    def test_stores(self):
        before = {0: 0x89ABCDEF, GBR: DATA}
        self.check(0xC000, before, changed={DATA: [0xEF]})
        self.check(0xC0FF, before, changed={DATA + 255: [0xEF]})
        self.check(0xC103, before, changed={DATA + 6: [0xCD, 0xEF]})
        self.check(0xC1FF, before, changed={DATA + 510: [0xCD, 0xEF]})
        self.check(0xC203, before, changed={DATA + 12: [0x89, 0xAB, 0xCD, 0xEF]})
        self.check(0xC2FF, before, changed={DATA + 1020: [0x89, 0xAB, 0xCD, 0xEF]})

    def test_loads(self):
        for word, place, row, value in (
                (0xC400, DATA, [0x7F], 0x7F), (0xC4FF, DATA + 255, [0x80], 0xFFFFFF80),
                (0xC503, DATA + 6, [0x7F, 0xFF], 0x7FFF), (0xC57F, DATA + 254, [0x80, 0], 0xFFFF8000),
                (0xC603, DATA + 12, [0x80, 1, 2, 3], 0x80010203), (0xC63F, DATA + 252, [1, 2, 3, 4], 0x01020304)):
            self.check(word, {GBR: DATA}, {0: value}, memory={place: row})

    def test_place_goes_round(self):
        self.check(0xC210, {0: 0x01020304, GBR: 0xFFFFFFD0}, changed={16: [1, 2, 3, 4]})
        self.check(0xC610, {GBR: 0xFFFFFFD0}, {0: 0x01020304}, memory={16: [1, 2, 3, 4]})


class Numbers(ChipCase):
    def test_none_in_common(self):
        for i, value, t in ((0xF0, 0xFFFFFF0F, 1), (0x80, 0x80, 0), (0xFF, 0xFFFFFF00, 1), (0, TOP, 1), (1, 1, 0)):
            self.check(0xC800 | i, {0: value}, t=t)

    def test_and_exclusive_or_or(self):
        for word, value, after in (
                (0xC9F0, TOP, 0xF0), (0xC9FF, 0x12345678, 0x78), (0xC90F, 0xF0, 0),
                (0xCAF0, TOP, 0xFFFFFF0F), (0xCAFF, 0x12345678, 0x12345687), (0xCA00, 5, 5),
                (0xCBF0, 0x0F, 0xFF), (0xCB80, 0x12345608, 0x12345688), (0xCB00, 5, 5)):
            self.check(word, {0: value}, {0: after})


class Bytes(ChipCase):
    before = {0: 0x101, GBR: 0x200}

    def row(self, byte):
        return {DATA: [0xAA, byte, 0x55]}

    def test_none_in_common(self):
        for i, byte, t in ((0xF0, 0x0F, 1), (0x80, 0x80, 0), (0xFF, 0, 1), (0, 0xFF, 1), (1, 0xFF, 0)):
            self.check(0xCC00 | i, self.before, t=t, memory=self.row(byte))

    def test_and_exclusive_or_or(self):
        for word, byte, after in (
                (0xCDF0, 0xFF, 0xF0), (0xCD0F, 0xF0, 0), (0xCDFE, 0x81, 0x80),
                (0xCEF0, 0xFF, 0x0F), (0xCEFF, 0x78, 0x87), (0xCE80, 0, 0x80),
                (0xCFF0, 0x0F, 0xFF), (0xCF80, 0x08, 0x88), (0xCF01, 0, 0x01)):
            self.check(word, self.before, memory=self.row(byte), changed={DATA + 1: [after]})

    def test_the_same_byte_is_not_told(self):
        for word, byte in ((0xCDFF, 0x81), (0xCE00, 0x81), (0xCF81, 0x81), (0xCF00, 0)):
            self.check(word, self.before, memory=self.row(byte))

    def test_place_goes_round(self):
        before = {0: 0xFFFFFF01, GBR: 0x400}
        self.check(0xCF0F, before, memory=self.row(0x80), changed={DATA + 1: [0x8F]})
        self.check(0xCC7F, before, t=1, memory=self.row(0x80))


class System(ChipCase):
    def test_called_and_passed(self):
        for word in (0xC300, 0xC3FF, 0xC37B):
            with self.subTest(word=word):
                state, ran, now = self.do(word, ALL, {}, {})
                self.assertEqual(ran, [1, 5, 0])
                state[PLACE] += 2
                self.assertEqual(now, state)


class Place(ChipCase):
    def test_told(self):
        for i, place in ((0, 0x204), (1, 0x208), (0x7F, 0x400), (0x80, 0x404), (0xFF, 0x600)):
            self.check(0xC700 | i, {}, {0: place}, at=AT)
            self.check(0xC700 | i, {}, {0: place}, at=AT + 2)
        self.check(0xC700, {}, {0: 4}, at=0)
        self.check(0xC700, {}, {0: 8}, at=4)
