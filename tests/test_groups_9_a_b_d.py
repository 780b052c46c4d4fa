"""Groups 9 and D, which read near this place, and A and B, which jump."""

from tests.helper import AT, PR, TOP, ChipCase, ask, big, code, get, put, reset, run

AT_P = 0x204


class Near(ChipCase):
    def test_word(self):
        for i, row, value in (
                (0x00, [0x12, 0x34], 0x1234), (0x01, [0x80, 0x00], 0xFFFF8000), (0x7F, [0x7F, 0xFF], 0x7FFF),
                (0x80, [0xFF, 0xFE], 0xFFFFFFFE), (0xFF, [1, 2], 0x0102)):
            self.check(0x9500 | i, {}, {5: value}, memory={0x104 + 2 * i: row}, at=0x100)

    def test_long(self):
        for i, value in ((0, 0x01020304), (1, 0x80000000), (0x7F, TOP), (0x80, 0x7FFFFFFF), (0xFE, 0x01020304)):
            self.check(0xD500 | i, {}, {5: value}, memory={4 + 4 * i: big(value, 4)}, at=0)

    def test_long_from_a_multiple_of_4(self):
        for at in (AT, AT + 2):
            memory = {0x200: [0] * 4, 0x204: [1, 2, 3, 4, 5, 6, 7, 8]}
            self.check(0xD500, {}, {5: 0x01020304}, memory=memory, at=at)
            self.check(0xD501, {}, {5: 0x05060708}, memory=memory, at=at)

    def test_bytes_that_were_not_handed_in(self):
        told = ask(reset(), put(0, 5), run(1, code(0x90FF)), get(0))
        self.assertEqual(told[2:], [[1, 0, 0], [0, 0]])


class AtTheEnd(ChipCase):
    def far(self, word, at):
        """Writes word to a place that can't be handed in, jumps there and does it; answers why and R5."""
        program = code(0x2231, 0x422B, 0x0009)
        told = ask(reset(), put(5, 77), put(2, at), put(3, word), run(4, program), get(5), get(22))
        self.assertEqual(told[4][2:], [4] + [n for k in (0, 1) for n in (at + k, big(word, 2)[k])])
        return told[4][:2] + [told[5][1], told[6][1] - at]

    def test_word(self):
        self.assertEqual(self.far(0x9501, 0xFFF8), [4, 0, 0, 2])
        self.assertEqual(self.far(0x9502, 0xFFF8), [3, 4, 77, 0])
        self.assertEqual(self.far(0x9501, 0xFFFA), [3, 4, 77, 0])

    def test_long(self):
        self.assertEqual(self.far(0xD501, 0xFFF4), [4, 0, 0, 2])
        self.assertEqual(self.far(0xD501, 0xFFF6), [4, 0, 0, 2])
        self.assertEqual(self.far(0xD501, 0xFFF8), [3, 4, 77, 0])
        self.assertEqual(self.far(0xD502, 0xFFF6), [3, 4, 77, 0])


class Jumps(ChipCase):
    targets = (
        (0x000, AT_P), (0x001, AT_P + 2), (0x7FF, AT_P + 4094), (0xFFF, AT_P - 2), (0xF00, AT_P - 512),
        (0x800, AT_P - 4096 + 2 ** 32), (0x123, AT_P + 0x246), (0xFFE, AT_P - 4))

    def test_by_number(self):
        for number, target in self.targets:
            self.check_jump(0xA000 | number, target)

    def test_call_by_number(self):
        for number, target in self.targets:
            self.check_jump(0xB000 | number, target, {}, {PR: AT_P})
