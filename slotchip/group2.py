"""Group 2: stores, bits in common, products of halves."""

from slotchip.bits import MASK, signed
from slotchip.machine import MACL


def store_at(machine, n, m, i):
    regs = machine.regs
    machine.store(regs[n], 1 << (i & 3), regs[m])


# Rn shrinks only behind the store: Rm is stored as it was where n is m, and nothing is done where it stops.
def store_below(machine, n, m, i):
    regs = machine.regs
    size = 1 << (i & 3)
    place = (regs[n] - size) & MASK
    machine.store(place, size, regs[m])
    regs[n] = place


def begin_signed_division(machine, n, m, i):
    machine.q = machine.regs[n] >> 31
    machine.m = machine.regs[m] >> 31
    machine.t = machine.q ^ machine.m


def have_no_bit_in_common(machine, n, m, i):
    machine.t = 1 if machine.regs[n] & machine.regs[m] == 0 else 0


def bits_of_both(machine, n, m, i):
    machine.regs[n] &= machine.regs[m]


def bits_of_one(machine, n, m, i):
    machine.regs[n] ^= machine.regs[m]


def bits_of_either(machine, n, m, i):
    machine.regs[n] |= machine.regs[m]


def have_same_byte(machine, n, m, i):
    differing = machine.regs[n] ^ machine.regs[m]
    machine.t = 1 if any([differing >> at & 255 == 0 for at in (0, 8, 16, 24)]) else 0


def join_halves(machine, n, m, i):
    regs = machine.regs
    regs[n] = (regs[m] & 0xFFFF) << 16 | regs[n] >> 16


def multiply_halves(machine, n, m, i):
    regs = machine.regs
    regs[MACL] = (regs[n] & 0xFFFF) * (regs[m] & 0xFFFF)


def multiply_signed_halves(machine, n, m, i):
    regs = machine.regs
    regs[MACL] = signed(regs[n], 16) * signed(regs[m], 16) & MASK


BY_K = {
    0x0: store_at,
    0x1: store_at,
    0x2: store_at,
    0x4: store_below,
    0x5: store_below,
    0x6: store_below,
    0x7: begin_signed_division,
    0x8: have_no_bit_in_common,
    0x9: bits_of_both,
    0xA: bits_of_one,
    0xB: bits_of_either,
    0xC: have_same_byte,
    0xD: join_halves,
    0xE: multiply_halves,
    0xF: multiply_signed_halves,
}


def act_of_group_2(i):
    return BY_K.get(i & 15)
