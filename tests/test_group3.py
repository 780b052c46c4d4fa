"""Group 3: comparisons, sums and differences, whole products, steps of division."""

from tests.helper import (
    ALL, M, MACH, MACL, Q, STATUS, T, TOP, ChipCase, ask, code, get, put, reset, run)

LEAST, MOST = 0x80000000, 0x7FFFFFFF


class Comparisons(ChipCase):
    # Rn, Rm; then T for 0, 2, 6, 3, 7.
    rows = (
        (5, 5, (1, 1, 0, 1, 0)),
        (5, 6, (0, 0, 0, 0, 0)),
        (6, 5, (0, 1, 1, 1, 1)),
        (TOP, 0, (0, 1, 1, 0, 0)),
        (0, TOP, (0, 0, 0, 1, 1)),
        (LEAST, MOST, (0, 1, 1, 0, 0)),
        (MOST, LEAST, (0, 0, 0, 1, 1)),
        (LEAST, LEAST, (1, 1, 0, 1, 0)),
        (TOP, TOP, (1, 1, 0, 1, 0)),
        (TOP, 0xFFFFFFFE, (0, 1, 1, 1, 1)),
        (0xFFFFFFFE, TOP, (0, 0, 0, 0, 0)),
        (0, 0, (1, 1, 0, 1, 0)),
        (0x100, 0, (0, 1, 1, 1, 1)),
        (0x40000000, 1, (0, 1, 1, 1, 1)),
        (1, 0x40000000, (0, 0, 0, 0, 0)),
        (0xBFFFFFFF, TOP, (0, 0, 0, 0, 0)),
        (TOP, 0xBFFFFFFF, (0, 1, 1, 1, 1)),
    )

    def test_each(self):
        for one, other, conditions in self.rows:
            for k, t in zip((0, 2, 6, 3, 7), conditions):
                self.check(0x3230 | k, {2: one, 3: other}, t=t)

    def test_with_itself(self):
        for k, t in zip((0, 2, 6, 3, 7), (1, 1, 0, 1, 0)):
            self.check(0x3220 | k, {2: TOP}, t=t)


class Sums(ChipCase):
    def test_difference_and_sum(self):
        for one, other, difference, total in (
                (7, 5, 2, 12), (5, 7, 0xFFFFFFFE, 12), (0, 1, TOP, 1), (TOP, 1, 0xFFFFFFFE, 0), (TOP, TOP, 0, 0xFFFFFFFE),
                (LEAST, 1, MOST, 0x80000001), (MOST, 1, 0x7FFFFFFE, LEAST)):
            self.check(0x3238, {2: one, 3: other}, {2: difference})
            self.check(0x323C, {2: one, 3: other}, {2: total})

    def test_same_register(self):
        self.check(0x3228, {2: 0x12345678}, {2: 0})
        self.check(0x322C, {2: 0x92345678}, {2: 0x2468ACF0})

    def test_difference_with_t(self):
        for one, other, before, difference, t in (
                (7, 5, 0, 2, 0), (7, 5, 1, 1, 0), (5, 5, 0, 0, 0), (5, 5, 1, TOP, 1), (0, 1, 0, TOP, 1),
                (0, TOP, 0, 1, 1), (0, TOP, 1, 0, 1), (TOP, TOP, 1, TOP, 1), (TOP, 0, 1, 0xFFFFFFFE, 0),
                (0, 0, 1, TOP, 1), (LEAST, MOST, 0, 1, 0), (MOST, LEAST, 0, TOP, 1)):
            for status in (0, ALL & ~T):
                self.check(0x323A, {2: one, 3: other}, {2: difference}, t=t, status=status | before)

    def test_sum_with_t(self):
        for one, other, before, total, t in (
                (7, 5, 0, 12, 0), (7, 5, 1, 13, 0), (TOP, 0, 0, TOP, 0), (TOP, 0, 1, 0, 1), (TOP, 1, 0, 0, 1),
                (TOP, TOP, 0, 0xFFFFFFFE, 1), (TOP, TOP, 1, TOP, 1), (MOST, 1, 0, LEAST, 0), (LEAST, LEAST, 0, 0, 1)):
            for status in (0, ALL & ~T):
                self.check(0x323E, {2: one, 3: other}, {2: total}, t=t, status=status | before)

    def test_with_t_on_itself(self):
        self.check(0x322A, {2: 5}, {2: TOP}, status=T)
        self.check(0x322A, {2: 5}, {2: 0}, status=0)
        self.check(0x322E, {2: LEAST}, {2: 1}, status=T)
        self.check(0x322E, {2: LEAST}, {2: 0}, t=1, status=0)

    def test_difference_that_fits_or_not(self):
        for one, other, difference, t in (
                (7, 5, 2, 0), (5, 7, 0xFFFFFFFE, 0), (LEAST, 1, MOST, 1), (LEAST, 0, LEAST, 0), (MOST, TOP, LEAST, 1),
                (MOST, LEAST, TOP, 1), (LEAST, LEAST, 0, 0), (0, LEAST, LEAST, 1), (TOP, LEAST, MOST, 0),
                (0xFFFFFFFE, MOST, MOST, 1), (TOP, MOST, LEAST, 0), (MOST, MOST, 0, 0)):
            self.check(0x323B, {2: one, 3: other}, {2: difference}, t=t)

    def test_sum_that_fits_or_not(self):
        for one, other, total, t in (
                (7, 5, 12, 0), (MOST, 1, LEAST, 1), (MOST, 0, MOST, 0), (LEAST, TOP, MOST, 1), (LEAST, 0, LEAST, 0),
                (TOP, TOP, 0xFFFFFFFE, 0), (TOP, 1, 0, 0), (LEAST, LEAST, 0, 1), (MOST, MOST, 0xFFFFFFFE, 1),
                (MOST, LEAST, TOP, 0), (1, MOST, LEAST, 1)):
            self.check(0x323F, {2: one, 3: other}, {2: total}, t=t)

    def test_fit_on_itself(self):
        self.check(0x322B, {2: LEAST}, {2: 0}, t=0)
        self.check(0x322F, {2: LEAST}, {2: 0}, t=1)


class Products(ChipCase):
    def test_without_signs(self):
        for one, other, high, low in (
                (3, 5, 0, 15), (TOP, TOP, 0xFFFFFFFE, 1), (LEAST, LEAST, 0x40000000, 0), (TOP, 2, 1, 0xFFFFFFFE),
                (0x10000, 0x10000, 1, 0), (0, TOP, 0, 0)):
            self.check(0x3235, {2: one, 3: other}, {MACH: high, MACL: low})

    def test_with_signs(self):
        for one, other, high, low in (
                (3, 5, 0, 15), (TOP, TOP, 0, 1), (LEAST, LEAST, 0x40000000, 0), (TOP, 2, TOP, 0xFFFFFFFE),
                (LEAST, MOST, 0xC0000000, LEAST), (MOST, MOST, 0x3FFFFFFF, 1), (0x10000, 0x10000, 1, 0), (0, TOP, 0, 0)):
            self.check(0x323D, {2: one, 3: other}, {MACH: high, MACL: low})

    def test_same_register(self):
        self.check(0x3225, {2: TOP}, {MACH: 0xFFFFFFFE, MACL: 1})
        self.check(0x322D, {2: TOP}, {MACH: 0, MACL: 1})


class Division(ChipCase):
    # Q, M, T before; Rn, Rm; then Rn, Q, T.
    rows = (
        # Q is M, both 0: x - Rm, Q is the old sign, turned where there was a borrow.
        (0, 0, 0, 5, 3, 7, 0, 1),
        (0, 0, 1, 5, 3, 8, 0, 1),
        (0, 0, 0, 1, 3, TOP, 1, 0),
        (0, 0, 0, 1, 2, 0, 0, 1),
        (0, 0, 1, 1, 4, TOP, 1, 0),
        (0, 0, 0, 0x80000001, 3, TOP, 0, 1),
        (0, 0, 0, 0xC0000000, 3, 0x7FFFFFFD, 1, 0),
        # Q 1, M 0: x + Rm, turned where there was a carry.
        (1, 0, 0, 5, 3, 13, 0, 1),
        (1, 0, 1, 5, 3, 14, 0, 1),
        (1, 0, 0, MOST, 3, 1, 1, 0),
        (1, 0, 0, MOST, 2, 0, 1, 0),
        (1, 0, 0, MOST, 1, TOP, 0, 1),
        (1, 0, 0, 0x80000000, 3, 3, 1, 0),
        (1, 0, 0, TOP, 2, 0, 0, 1),
        # Q 0, M 1: x + Rm, and turned once more.
        (0, 1, 0, 5, 3, 13, 1, 1),
        (0, 1, 1, 5, 3, 14, 1, 1),
        (0, 1, 0, MOST, 3, 1, 0, 0),
        (0, 1, 0, 0x80000000, 3, 3, 0, 0),
        (0, 1, 0, TOP, 2, 0, 1, 1),
        (0, 1, 0, 5, 0xFFFFFFF0, 0xFFFFFFFA, 1, 1),
        # Both 1: x - Rm, and turned once more.
        (1, 1, 0, 5, 3, 7, 1, 1),
        (1, 1, 1, 5, 3, 8, 1, 1),
        (1, 1, 0, 1, 3, TOP, 0, 0),
        (1, 1, 0, 1, 2, 0, 1, 1),
        (1, 1, 0, 0x80000001, 3, TOP, 1, 1),
        (1, 1, 0, 0xC0000000, 3, 0x7FFFFFFD, 0, 0),
    )

    def test_one_step(self):
        for q, m, t, one, other, after, q_after, t_after in self.rows:
            for rest in (0, 0x0F2):
                status = rest | q * Q | m * M | t * T
                now = rest | q_after * Q | m * M | t_after * T
                self.check(0x3234, {2: one, 3: other}, {2: after, STATUS: now}, status=status)

    def test_with_itself(self):
        self.check(0x3224, {2: 5}, {2: 5, STATUS: T}, status=0)
        self.check(0x3224, {2: 5}, {2: 16, STATUS: T}, status=Q | T)
        self.check(0x3224, {2: TOP}, {2: TOP, STATUS: T}, status=0)

    def quotient(self, start, turns, dividend, divisor):
        program = code(start, *[0x4124, 0x3324] * turns, 0x4124)
        told = ask(reset(), put(1, dividend), put(2, divisor), run(2 * turns + 2, program), get(1))
        self.assertEqual(told[3], [2 * turns + 2, 0, 0])
        return told[4][1]

    def test_whole_division(self):
        # 32 bits by 32 bits without signs: the dividend goes out of R1 into R3 bit by bit.
        for dividend, divisor in ((100, 7), (TOP, 1), (TOP, TOP), (5, 9), (0x12345678, 0x1234), (0, 3), (LEAST, 3)):
            with self.subTest(dividend=dividend, divisor=divisor):
                self.assertEqual(self.quotient(0x0019, 32, dividend, divisor), dividend // divisor)
