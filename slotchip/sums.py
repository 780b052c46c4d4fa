"""Products added up in MAC: the two instructions F of the groups 0 and 4."""

from slotchip.bits import MASK, MASK_64, clamped, signed
from slotchip.machine import MACH, MACL


# Both are read before either register grows: where one of them stops the run, nothing is done.
def next_product(machine, n, m, size):
    regs = machine.regs
    first = machine.load(regs[n], size)
    ahead = size if n == m else 0
    second = machine.load((regs[m] + ahead) & MASK, size)
    regs[n] = (regs[n] + size) & MASK
    regs[m] = (regs[m] + size) & MASK
    return signed(first, 32) * signed(second, 32)


def read_sum(machine):
    return signed(machine.regs[MACH] << 32 | machine.regs[MACL], 64)


def write_sum(machine, value):
    machine.regs[MACH] = (value & MASK_64) >> 32
    machine.regs[MACL] = value & MASK


def add_long_product(machine, n, m, i):
    value = next_product(machine, n, m, 4) + read_sum(machine)
    if machine.s == 1:
        value = clamped(value, -(2 ** 47), 2 ** 47 - 1)
    write_sum(machine, value)


def add_word_product(machine, n, m, i):
    product = next_product(machine, n, m, 2)
    if machine.s == 1:
        add_to_lower_half(machine, product)
    else:
        write_sum(machine, read_sum(machine) + product)


def add_to_lower_half(machine, product):
    regs = machine.regs
    value = signed(regs[MACL], 32) + product
    kept = clamped(value, -(2 ** 31), 2 ** 31 - 1)
    if kept != value:
        regs[MACH] |= 1
    regs[MACL] = kept & MASK
