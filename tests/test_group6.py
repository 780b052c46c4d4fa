"""Group 6: loads, and one register made from another."""

from tests.helper import ALL, DATA, T, TOP, ChipCase

LEAST, MOST = 0x80000000, 0x7FFFFFFF


class Loads(ChipCase):
    rows = (
        (0, 1, [0x7F], 0x7F), (0, 1, [0x80], 0xFFFFFF80), (0, 1, [0xFF, 0x11], TOP),
        (1, 2, [0x7F, 0xFF], 0x7FFF), (1, 2, [0x80, 0x00], 0xFFFF8000), (1, 2, [0x12, 0x34, 0x56], 0x1234),
        (2, 4, [0x80, 1, 2, 3], 0x80010203), (2, 4, [0x7F, 0xFF, 0xFF, 0xFE], 0x7FFFFFFE),
    )

    def test_from(self):
        for k, size, row, value in self.rows:
            self.check(0x6230 | k, {3: DATA}, {2: value}, memory={DATA: row})
            self.check(0x6330 | k, {3: DATA}, {3: value}, memory={DATA: row})

    def test_from_and_more(self):
        for k, size, row, value in self.rows:
            self.check(0x6234 | k, {3: DATA}, {2: value, 3: DATA + size}, memory={DATA: row})

    def test_from_and_more_where_they_are_the_same(self):
        for k, size, row, value in self.rows:
            self.check(0x6334 | k, {3: DATA}, {3: value}, memory={DATA: row})

    def test_every_place_of_four(self):
        for k in range(4):
            self.check(0x6230, {3: DATA + k}, {2: 0x11 * (k + 1)}, memory={DATA: [0x11, 0x22, 0x33, 0x44]})
        self.check(0x6231, {3: DATA + 2}, {2: 0x3344}, memory={DATA: [0x11, 0x22, 0x33, 0x44]})

    def test_at_the_end(self):
        for k, size in ((4, 1), (5, 2), (6, 4)):
            self.check(0x6230 | k, {3: 0x10000 - size}, {2: 0, 3: 0x10000})


class Made(ChipCase):
    def test_plain(self):
        value = 0x89ABCDEF
        for k, after in (
                (3, 0x89ABCDEF), (7, 0x76543210), (8, 0x89ABEFCD), (9, 0xCDEF89AB), (0xB, 0x76543211),
                (0xC, 0xEF), (0xD, 0xCDEF), (0xE, 0xFFFFFFEF), (0xF, 0xFFFFCDEF)):
            self.check(0x6230 | k, {3: value}, {2: after})
            self.check(0x6330 | k, {3: value}, {3: after})

    def test_ends_of_signs(self):
        for k, value, after in (
                (0xE, 0xFFFFFF7F, 0x7F), (0xE, 0x80, 0xFFFFFF80), (0xE, 0x100, 0),
                (0xF, 0xFFFF7FFF, 0x7FFF), (0xF, 0x8000, 0xFFFF8000), (0xF, 0x10000, 0),
                (0xC, TOP, 0xFF), (0xC, 0xFFFFFF00, 0), (0xD, TOP, 0xFFFF), (0xD, 0xFFFF0000, 0),
                (7, 0, TOP), (7, TOP, 0), (0xB, 0, 0), (0xB, 1, TOP), (0xB, TOP, 1), (0xB, LEAST, LEAST)):
            self.check(0x6230 | k, {3: value}, {2: after})

    def test_exchanged(self):
        for k, value, after in (
                (8, 0x12345601, 0x12340156), (8, 0x123401FE, 0x1234FE01), (8, 0xFFFF00FF, 0xFFFFFF00), (8, 0xFF00, 0xFF),
                (9, 0x12345678, 0x56781234), (9, 0xFFFF, 0xFFFF0000), (9, 0xFFFF0000, 0xFFFF)):
            self.check(0x6230 | k, {3: value}, {2: after})

    def test_negated_with_t(self):
        for value, t, after, borrow in (
                (0, 0, 0, 0), (0, 1, TOP, 1), (1, 0, TOP, 1), (1, 1, 0xFFFFFFFE, 1), (TOP, 0, 1, 1), (TOP, 1, 0, 1),
                (LEAST, 0, LEAST, 1), (LEAST, 1, MOST, 1), (MOST, 0, 0x80000001, 1)):
            for rest in (0, ALL & ~T):
                self.check(0x623A, {3: value}, {2: after}, t=borrow, status=rest | t)
                self.check(0x633A, {3: value}, {3: after}, t=borrow, status=rest | t)
