"""Group 8: R0 and memory near a register, R0 and a number, jumps and leaps by T."""

from tests.helper import ALL, DATA, T, TOP, ChipCase

AT_P = 0x204


class Moves(ChipCase):
    def test_stores(self):
        before = {0: 0x89ABCDEF, 3: DATA}
        self.check(0x8030, before, changed={DATA: [0xEF]})
        self.check(0x8035, before, changed={DATA + 5: [0xEF]})
        self.check(0x803F, before, changed={DATA + 15: [0xEF]})
        self.check(0x8130, before, changed={DATA: [0xCD, 0xEF]})
        self.check(0x8135, before, changed={DATA + 10: [0xCD, 0xEF]})
        self.check(0x813F, before, changed={DATA + 30: [0xCD, 0xEF]})

    def test_loads(self):
        memory = {DATA: list(range(0x78, 0x98))}
        for word, value in (
                (0x8430, 0x78), (0x8437, 0x7F), (0x8438, 0xFFFFFF80), (0x843F, 0xFFFFFF87),
                (0x8530, 0x7879), (0x8533, 0x7E7F), (0x8534, 0xFFFF8081), (0x853F, 0xFFFF9697)):
            self.check(word, {3: DATA}, {0: value}, memory=memory)

    def test_by_r0_itself(self):
        self.check(0x8001, {0: DATA + 4}, changed={DATA + 5: [0x04]})
        self.check(0x8501, {0: DATA}, {0: 0x1234}, memory={DATA: [0, 0, 0x12, 0x34]})

    def test_place_goes_round(self):
        self.check(0x803F, {0: 7, 3: 0xFFFFFFF4}, changed={3: [7]})
        self.check(0x853F, {3: 0xFFFFFFE4}, {0: 0x0405}, memory={2: [4, 5]})


class Numbers(ChipCase):
    def test_r0_is_i(self):
        for word, value, t in (
                (0x8805, 5, 1), (0x8805, 4, 0), (0x88FF, TOP, 1), (0x88FF, 0xFF, 0), (0x8880, 0xFFFFFF80, 1),
                (0x8880, 0x80, 0), (0x887F, 0x7F, 1), (0x8800, 0, 1), (0x8800, 0x100, 0)):
            self.check(word, {0: value}, t=t)


class Leaps(ChipCase):
    def test_where_t_is_1(self):
        for i, target in ((0x00, AT_P), (0x7F, AT_P + 254), (0x80, AT_P - 256), (0xFF, AT_P - 2)):
            for status in (T, ALL):
                self.check_leap(0x8900 | i, target, status)

    def test_where_t_is_0(self):
        for i, target in ((0x00, AT_P), (0x7F, AT_P + 254), (0x80, AT_P - 256), (0xFF, AT_P - 2)):
            for status in (0, ALL & ~T):
                self.check_leap(0x8B00 | i, target, status)

    def test_not_there(self):
        for status in (0, ALL & ~T):
            self.check(0x8910, status=status)
        for status in (T, ALL):
            self.check(0x8B10, status=status)

    def test_below_0(self):
        self.check(0x8980, after={22: 0xFFFFFF04}, status=T, at=0)


class Jumps(ChipCase):
    def test_where_t_is_1(self):
        for i, target in ((0x00, AT_P), (0x7F, AT_P + 254), (0x80, AT_P - 256), (0xFF, AT_P - 2)):
            for status in (T, ALL):
                self.check_jump(0x8D00 | i, target, status=status)

    def test_where_t_is_0(self):
        for i, target in ((0x00, AT_P), (0x7F, AT_P + 254), (0x80, AT_P - 256), (0xFF, AT_P - 2)):
            for status in (0, ALL & ~T):
                self.check_jump(0x8F00 | i, target, status=status)

    def test_not_there(self):
        for word, statuses in ((0x8D10, (0, ALL & ~T)), (0x8F10, (T, ALL))):
            for status in statuses:
                self.check_jump(word, AT_P, status=status)

    def test_below_0(self):
        self.check_jump(0x8D80, 0xFFFFFF04, status=T, at=0)
        self.check_jump(0x8F80, 0xFFFFFF04, status=0, at=0)
