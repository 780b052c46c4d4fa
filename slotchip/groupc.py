"""Group C, but for what mustn't stand behind a jump: R0 and memory by GBR, R0 and numbers."""

from slotchip.bits import MASK
from slotchip.machine import GBR


def place_by_base(machine, i, size):
    return (machine.regs[GBR] + size * i) & MASK


def store_by_base(machine, n, m, i):
    size = 1 << (n & 3)
    machine.store(place_by_base(machine, i, size), size, machine.regs[0])


def load_by_base(machine, n, m, i):
    size = 1 << (n & 3)
    machine.regs[0] = machine.load(place_by_base(machine, i, size), size)


def combined(n, value, i):
    if n & 3 == 1:
        return value & i
    if n & 3 == 2:
        return value ^ i
    return value | i


def has_no_bit_of(machine, n, m, i):
    machine.t = 1 if machine.regs[0] & i == 0 else 0


def combine(machine, n, m, i):
    machine.regs[0] = combined(n, machine.regs[0], i)


def byte_place(machine):
    return (machine.regs[0] + machine.regs[GBR]) & MASK


def byte_has_no_bit_of(machine, n, m, i):
    machine.t = 1 if machine.load(byte_place(machine), 1) & i == 0 else 0


def combine_byte(machine, n, m, i):
    place = byte_place(machine)
    machine.store(place, 1, combined(n, machine.load(place, 1), i))


BY_N = {
    0x0: store_by_base,
    0x1: store_by_base,
    0x2: store_by_base,
    0x4: load_by_base,
    0x5: load_by_base,
    0x6: load_by_base,
    0x8: has_no_bit_of,
    0x9: combine,
    0xA: combine,
    0xB: combine,
    0xC: byte_has_no_bit_of,
    0xD: combine_byte,
    0xE: combine_byte,
    0xF: combine_byte,
}


def act_of_group_c(n):
    return BY_N.get(n)
