"""Group 3: comparisons, sums, differences, whole products, steps of division."""

from slotchip.bits import MASK, signed
from slotchip.machine import MACH, MACL


def is_same(machine, n, m, i):
    machine.t = 1 if machine.regs[n] == machine.regs[m] else 0


def is_at_least(machine, n, m, i):
    machine.t = 1 if machine.regs[n] >= machine.regs[m] else 0


def is_above(machine, n, m, i):
    machine.t = 1 if machine.regs[n] > machine.regs[m] else 0


def is_at_least_signed(machine, n, m, i):
    machine.t = 1 if signed(machine.regs[n], 32) >= signed(machine.regs[m], 32) else 0


def is_above_signed(machine, n, m, i):
    machine.t = 1 if signed(machine.regs[n], 32) > signed(machine.regs[m], 32) else 0


def subtract(machine, n, m, i):
    regs = machine.regs
    regs[n] = (regs[n] - regs[m]) & MASK


def add(machine, n, m, i):
    regs = machine.regs
    regs[n] = (regs[n] + regs[m]) & MASK


def subtract_with_t(machine, n, m, i):
    regs = machine.regs
    value = regs[n] - regs[m] - machine.t
    regs[n] = value & MASK
    machine.t = 1 if value < 0 else 0


def add_with_t(machine, n, m, i):
    regs = machine.regs
    value = regs[n] + regs[m] + machine.t
    regs[n] = value & MASK
    machine.t = value >> 32


def keep_signed(machine, n, value):
    machine.regs[n] = value & MASK
    machine.t = 0 if -(2 ** 31) <= value < 2 ** 31 else 1


def subtract_signed(machine, n, m, i):
    keep_signed(machine, n, signed(machine.regs[n], 32) - signed(machine.regs[m], 32))


def add_signed(machine, n, m, i):
    keep_signed(machine, n, signed(machine.regs[n], 32) + signed(machine.regs[m], 32))


def keep_product(machine, product):
    machine.regs[MACH] = product >> 32 & MASK
    machine.regs[MACL] = product & MASK


def multiply_whole(machine, n, m, i):
    keep_product(machine, machine.regs[n] * machine.regs[m])


def multiply_whole_signed(machine, n, m, i):
    keep_product(machine, signed(machine.regs[n], 32) * signed(machine.regs[m], 32))


def divide_step(machine, n, m, i):
    regs = machine.regs
    sign = regs[n] >> 31
    doubled = (2 * regs[n] | machine.t) & MASK
    value = doubled - regs[m] if machine.q == machine.m else doubled + regs[m]
    regs[n] = value & MASK
    turned = 0 if value == regs[n] else 1
    machine.q = sign ^ turned ^ machine.m
    machine.t = 1 if machine.q == machine.m else 0


BY_K = {
    0x0: is_same,
    0x2: is_at_least,
    0x3: is_at_least_signed,
    0x4: divide_step,
    0x5: multiply_whole,
    0x6: is_above,
    0x7: is_above_signed,
    0x8: subtract,
    0xA: subtract_with_t,
    0xB: subtract_signed,
    0xC: add,
    0xD: multiply_whole_signed,
    0xE: add_with_t,
    0xF: add_signed,
}


def act_of_group_3(i):
    return BY_K.get(i & 15)
