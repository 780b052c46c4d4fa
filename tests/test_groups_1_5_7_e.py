"""Groups 1, 5, 7 and E."""

from tests.helper import DATA, TOP, ChipCase


class Offsets(ChipCase):
    def test_store(self):
        self.check(0x1230, {2: DATA, 3: 0x89ABCDEF}, changed={DATA: [0x89, 0xAB, 0xCD, 0xEF]})
        self.check(0x1235, {2: DATA, 3: 0x01020304}, changed={DATA + 20: [1, 2, 3, 4]})
        self.check(0x123F, {2: DATA, 3: 0x01020304}, changed={DATA + 60: [1, 2, 3, 4]})
        self.check(0x1221, {2: DATA}, changed={DATA + 4: [0, 0, 3, 0]}, memory={DATA: [9] * 12})

    def test_load(self):
        memory = {DATA: [0x80, 1, 2, 3] + [0] * 16 + [4, 5, 6, 7] + [0] * 36 + [0xFF, 0xFE, 0xFD, 0xFC]}
        self.check(0x5230, {3: DATA}, {2: 0x80010203}, memory=memory)
        self.check(0x5235, {3: DATA}, {2: 0x04050607}, memory=memory)
        self.check(0x523F, {3: DATA}, {2: 0xFFFEFDFC}, memory=memory)
        self.check(0x5335, {3: DATA}, {3: 0x04050607}, memory=memory)

    def test_place_goes_round(self):
        self.check(0x123F, {2: 0xFFFFFFD0, 3: 0x01020304}, changed={12: [1, 2, 3, 4]})
        self.check(0x523F, {3: 0xFFFFFFD0}, {2: 0x01020304}, memory={12: [1, 2, 3, 4]})


class Numbers(ChipCase):
    def test_add(self):
        for word, before, after in (
                (0x7401, 5, 6), (0x7400, 5, 5), (0x747F, 1, 0x80), (0x7480, 0x80, 0), (0x7480, 0, 0xFFFFFF80),
                (0x74FF, 0, TOP), (0x7401, TOP, 0), (0x7401, 0x7FFFFFFF, 0x80000000), (0x74FF, 0x80000000, 0x7FFFFFFF)):
            self.check(word, {4: before}, {4: after})

    def test_become(self):
        for word, after in ((0xE400, 0), (0xE47F, 0x7F), (0xE480, 0xFFFFFF80), (0xE4FF, TOP), (0xE412, 0x12)):
            self.check(word, {}, {4: after})

    def test_every_register(self):
        for n in range(16):
            self.check(0x7002 | n << 8, {n: 40}, {n: 42})
            self.check(0xE0F0 | n << 8, {n: 40}, {n: 0xFFFFFFF0})
