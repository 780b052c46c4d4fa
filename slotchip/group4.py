"""Group 4, but for its jumps: shifts, and what is kept beside the registers."""

from slotchip.bits import MASK, signed
from slotchip.machine import MACH, STATUS
from slotchip.sums import add_word_product

AMOUNTS = (2, 8, 16)


def double(machine, n, m, i):
    regs = machine.regs
    machine.t = regs[n] >> 31
    regs[n] = regs[n] << 1 & MASK


def halve(machine, n, m, i):
    regs = machine.regs
    machine.t = regs[n] & 1
    regs[n] = regs[n] >> 1


def halve_signed(machine, n, m, i):
    regs = machine.regs
    machine.t = regs[n] & 1
    regs[n] = signed(regs[n], 32) >> 1 & MASK


def turn_left(machine, n, m, i):
    regs = machine.regs
    machine.t = regs[n] >> 31
    regs[n] = regs[n] << 1 & MASK | machine.t


def turn_right(machine, n, m, i):
    regs = machine.regs
    machine.t = regs[n] & 1
    regs[n] = regs[n] >> 1 | machine.t << 31


def turn_left_through_t(machine, n, m, i):
    regs = machine.regs
    value = regs[n] << 1 | machine.t
    regs[n] = value & MASK
    machine.t = value >> 32


def turn_right_through_t(machine, n, m, i):
    regs = machine.regs
    value = machine.t << 32 | regs[n]
    regs[n] = value >> 1
    machine.t = value & 1


def shift_left(machine, n, m, i):
    machine.regs[n] = machine.regs[n] << AMOUNTS[m] & MASK


def shift_right(machine, n, m, i):
    machine.regs[n] = machine.regs[n] >> AMOUNTS[m]


def count_down(machine, n, m, i):
    regs = machine.regs
    regs[n] = (regs[n] - 1) & MASK
    machine.t = 1 if regs[n] == 0 else 0


def is_at_least_zero(machine, n, m, i):
    machine.t = 1 if signed(machine.regs[n], 32) >= 0 else 0


def is_above_zero(machine, n, m, i):
    machine.t = 1 if signed(machine.regs[n], 32) > 0 else 0


# As set and get number them: MACH, MACL, PR follow one another, and so do the status, GBR, VBR.
def which_of(m, i):
    return m + (MACH if i & 15 in (0x2, 0x6, 0xA) else STATUS)


def store_which(machine, n, m, i):
    place = (machine.regs[n] - 4) & MASK
    machine.store(place, 4, machine.read(which_of(m, i)))
    machine.regs[n] = place


def load_which(machine, n, m, i):
    place = machine.regs[n]
    machine.write(which_of(m, i), machine.load(place, 4))
    machine.regs[n] = (place + 4) & MASK


def take_which(machine, n, m, i):
    machine.write(which_of(m, i), machine.regs[n])


def claim_byte(machine, n, m, i):
    place = machine.regs[n]
    value = machine.load(place, 1)
    machine.store(place, 1, value | 0x80)
    machine.t = 1 if value == 0 else 0


BY_I = {
    0x00: double, 0x20: double,
    0x01: halve, 0x21: halve_signed,
    0x04: turn_left, 0x05: turn_right,
    0x24: turn_left_through_t, 0x25: turn_right_through_t,
    0x08: shift_left, 0x18: shift_left, 0x28: shift_left,
    0x09: shift_right, 0x19: shift_right, 0x29: shift_right,
    0x10: count_down, 0x11: is_at_least_zero, 0x15: is_above_zero,
    0x02: store_which, 0x12: store_which, 0x22: store_which,
    0x03: store_which, 0x13: store_which, 0x23: store_which,
    0x06: load_which, 0x16: load_which, 0x26: load_which,
    0x07: load_which, 0x17: load_which, 0x27: load_which,
    0x0A: take_which, 0x1A: take_which, 0x2A: take_which,
    0x0E: take_which, 0x1E: take_which, 0x2E: take_which,
    0x1B: claim_byte,
}


def act_of_group_4(i):
    if i & 15 == 15:
        return add_word_product
    return BY_I.get(i)
