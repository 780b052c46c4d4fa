"""Group 8, but for its jumps and leaps: R0 and memory near a register."""

from slotchip.bits import MASK, signed


def place_near(machine, m, i, size):
    return (machine.regs[m] + size * (i & 15)) & MASK


def store_near(machine, n, m, i):
    size = 1 << (n & 3)
    machine.store(place_near(machine, m, i, size), size, machine.regs[0])


def load_near(machine, n, m, i):
    size = 1 << (n & 3)
    machine.regs[0] = machine.load(place_near(machine, m, i, size), size)


def is_number(machine, n, m, i):
    machine.t = 1 if machine.regs[0] == signed(i, 8) & MASK else 0


BY_N = {0x0: store_near, 0x1: store_near, 0x4: load_near, 0x5: load_near, 0x8: is_number}


def act_of_group_8(n):
    return BY_N.get(n)
